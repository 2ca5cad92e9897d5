"""The names of the interface, and where they are defined."""

import inspect
import unittest

from saylore import back, comparing, desks, errors, learning, machines, notes, saying

VALUES = {
    "BadBook": ("part", "number"),
    "BadWord": (),
    "BadSounds": (),
    "BadCount": (),
    "Unsaid": ("place",),
    "NoLetter": (),
    "NoException": (),
    "OtherLetters": (),
    "BadSamples": ("number",),
    "BadDeed": ("number",),
    "Halted": ("number", "done"),
    "BadText": ("row",),
}

FUNCTIONS = {
    saying: {"walk": ["book", "word"], "said": ["book", "word"]},
    comparing: {
        "parted": ["one", "other"],
        "use": ["book", "number"],
        "unsaid": ["book"],
        "idle": ["book"],
        "free": ["book"],
        "needless": ["book"],
    },
    back: {"writings": ["book", "sounds", "long"]},
    learning: {"least": ["letters", "rules", "samples"], "blamed": ["letters", "rules", "samples"]},
    notes: {"written": ["book"], "read": ["text"]},
}

CLASSES = {
    machines: {"Sayer": {"feed": ["letter"], "back": [], "end": [], "word": []}},
    desks: {
        "Desk": {
            "book": [],
            "say": ["word"],
            "put": ["place", "rule"],
            "drop": ["place"],
            "move": ["place", "other"],
            "learn": ["word", "sounds"],
            "forget": ["word"],
            "batch": ["deeds", "keep"],
            "told": [],
            "is_idle": [],
        }
    },
}


class Interface(unittest.TestCase):
    def test_each_error_is_a_say_error_and_none_is_under_another_one(self):
        self.assertEqual(errors.SayError.__bases__, (ValueError,))
        for name in VALUES:
            with self.subTest(name=name):
                self.assertEqual(getattr(errors, name).__bases__, (errors.SayError,))
                self.assertEqual(getattr(errors, name).__module__, "saylore.errors")

    def test_each_error_has_its_values(self):
        for name, values in VALUES.items():
            with self.subTest(name=name):
                handed = list(range(5, 5 + len(values)))
                made = getattr(errors, name)(*handed)
                self.assertEqual([getattr(made, value) for value in values], handed)
                self.assertIsInstance(str(made), str)

    def test_functions_are_defined_in_their_files_with_their_arguments(self):
        for module, functions in FUNCTIONS.items():
            for name, arguments in functions.items():
                with self.subTest(name=name):
                    function = getattr(module, name)
                    self.assertEqual(function.__module__, module.__name__)
                    self.assertEqual(list(inspect.signature(function).parameters), arguments)

    def test_classes_have_their_methods_themselves(self):
        for module, classes in CLASSES.items():
            for name, methods in classes.items():
                made = getattr(module, name)
                self.assertEqual(made.__module__, module.__name__)
                self.assertEqual(list(inspect.signature(made).parameters), ["book"])
                for word, arguments in methods.items():
                    with self.subTest(name=name, method=word):
                        method = vars(made)[word]
                        self.assertEqual(list(inspect.signature(method).parameters), ["self", *arguments])

    def test_what_stands_behind_the_star(self):
        for function, name, default in [(back.writings, "long", 5), (desks.Desk.batch, "keep", True)]:
            parameter = inspect.signature(function).parameters[name]
            self.assertIs(parameter.kind, inspect.Parameter.KEYWORD_ONLY)
            self.assertEqual(parameter.default, default)
        self.assertEqual(back.LONG, 5)
        self.assertRaises(TypeError, back.writings, ("ab", (), ()), "", 3)
        self.assertRaises(TypeError, desks.Desk(("ab", (), ())).batch, [], True)


if __name__ == "__main__":
    unittest.main()
