"""[1]: what holds at every door: nothing is kept or changed, and asked again the same is told."""

import copy
import unittest

from saylore.back import writings
from saylore.comparing import free, idle, needless, parted, unsaid, use
from saylore.desks import Desk
from saylore.learning import blamed, least
from saylore.machines import Sayer
from saylore.notes import read, written
from saylore.saying import said, walk

BOOK = (
    "ab",
    (("", "a", "", "X"), ("", "a", "", "X"), ("", "b", "", "X")),
    (("a", "X"), ("ab", "Z")),
)
SAMPLES = [("a", "X"), ("ab", "Z"), ("b", "X")]
DEEDS = [("drop", 0), ("learn", "aa", "Q"), ("put", 0, ("#", "b", "", "")), ("forget", "ab"), ("move", 0, 1)]

ASKED = {
    "walk": lambda: walk(BOOK, "aab"),
    "said": lambda: said(BOOK, "ab"),
    "parted": lambda: parted(BOOK, ("ab", BOOK[1], ())),
    "use": lambda: use(BOOK, 2),
    "unsaid": lambda: unsaid(("ab", BOOK[1][:2], ())),
    "idle": lambda: idle(BOOK),
    "free": lambda: free(BOOK),
    "needless": lambda: needless(BOOK),
    "writings": lambda: writings(BOOK, "XX"),
    "least": lambda: least("ab", BOOK[1], SAMPLES[::2]),
    "blamed": lambda: blamed("ab", BOOK[1], SAMPLES),
    "batch": lambda: Desk(BOOK).batch(DEEDS),
    "written": lambda: written(BOOK),
    "read": lambda: read(written(BOOK)),
}


class Asked(unittest.TestCase):
    def test_asked_again_the_same_is_told_though_what_was_told_was_changed(self):
        for door, ask in ASKED.items():
            with self.subTest(door=door):
                told = ask()
                kept = copy.deepcopy(told)
                self.assertTrue(kept)
                if isinstance(told, list):
                    told.append("more")
                    del told[0]
                self.assertEqual(ask(), kept)

    def test_objects_tell_the_same_again(self):
        desk = Desk(BOOK)
        desk.batch(DEEDS)
        for _ in range(2):
            self.assertEqual(desk.told(), ["begun", "drop", "learn", "put", "forget", "move", "ended"])
            self.assertEqual(desk.book()[2], (("a", "X"), ("aa", "Q")))
            self.assertEqual(desk.say("aa"), "Q")
            self.assertIs(desk.is_idle(), True)
            desk.told().clear()

    def test_lists_that_are_handed_in_stay_as_they_are(self):
        samples, deeds = copy.deepcopy(SAMPLES), copy.deepcopy(DEEDS)
        least("ab", BOOK[1], samples)
        blamed("ab", BOOK[1], samples)
        desk = Desk(BOOK)
        desk.batch(deeds)
        self.assertEqual((samples, deeds), (SAMPLES, DEEDS))

    def test_lists_that_were_handed_in_may_be_changed_later(self):
        samples, deeds = copy.deepcopy(SAMPLES), copy.deepcopy(DEEDS)
        faults = blamed("ab", BOOK[1], samples)
        desk = Desk(BOOK)
        answers = desk.batch(deeds)
        before = (desk.book(), desk.told())
        samples.clear()
        deeds[:] = [None]
        self.assertEqual(faults, [1])
        self.assertEqual(answers, [BOOK[1][0], True, None, "Z", None])
        self.assertEqual((desk.book(), desk.told()), before)

    def test_objects_of_one_book_do_not_touch_each_other(self):
        desks = [Desk(BOOK), Desk(BOOK)]
        sayers = [Sayer(BOOK), Sayer(desks[0].book())]
        sayers[1].feed("a")
        desks[0].batch([("drop", 0), ("drop", 0), ("forget", "ab")])
        self.assertEqual((desks[1].book(), desks[1].told()), (BOOK, []))
        self.assertEqual([sayer.word() for sayer in sayers], ["", "a"])
        self.assertEqual(sayers[1].end(), "X")


if __name__ == "__main__":
    unittest.main()
