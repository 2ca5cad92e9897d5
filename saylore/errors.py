"""What is refused: one class for each kind of refusal."""


class SayError(ValueError):
    """Any refusal."""


class BadBook(SayError):
    """A book that can't be one: the part, and the number in it, of the first thing that can't be."""

    def __init__(self, part, number):
        super().__init__(f"the book can't be: part {part}, number {number}")
        self.part = part
        self.number = number


class BadWord(SayError):
    """What is no word of the book's letters, or no letter of it."""


class BadSounds(SayError):
    """What is no text of sounds, or too long a one."""


class BadCount(SayError):
    """What is no number, or one out of bounds."""


class Unsaid(SayError):
    """A word that rules don't say: the first place at which none fits."""

    def __init__(self, place):
        super().__init__(f"no rule fits at place {place}")
        self.place = place


class NoLetter(SayError):
    """There is no letter to take back."""


class NoException(SayError):
    """The word is no exception of the book."""


class OtherLetters(SayError):
    """Two books are of other letters."""


class BadSamples(SayError):
    """What are no samples: the number of the first that can't be."""

    def __init__(self, number):
        super().__init__(f"sample {number} can't be")
        self.number = number


class BadDeed(SayError):
    """What are no deeds: the number of the first that can't be."""

    def __init__(self, number):
        super().__init__(f"deed {number} can't be")
        self.number = number


class Halted(SayError):
    """A batch that was halted: the number of the deed that was refused, and how many stand."""

    def __init__(self, number, done):
        super().__init__(f"deed {number} was refused, {done} stand")
        self.number = number
        self.done = done


class BadText(SayError):
    """A text that is no book's: the first row that can't be."""

    def __init__(self, row):
        super().__init__(f"row {row} can't be")
        self.row = row
