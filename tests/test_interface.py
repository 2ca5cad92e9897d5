"""The names of the interface, and where they are defined."""

import inspect
import unittest

from saylore import comparing, errors, machines, saying

VALUES = {
    "BadBook": ("part", "number"),
    "BadWord": (),
    "BadSounds": (),
    "BadCount": (),
    "Unsaid": ("place",),
    "NoLetter": (),
    "NoException": (),
    "OtherLetters": (),
    "BadSamples": ("number",),
    "BadDeed": ("number",),
    "Halted": ("number", "done"),
    "BadText": ("row",),
}

FUNCTIONS = {
    saying: {"walk": ["book", "word"], "said": ["book", "word"]},
    comparing: {
        "parted": ["one", "other"],
        "use": ["book", "number"],
        "unsaid": ["book"],
        "idle": ["book"],
        "free": ["book"],
        "needless": ["book"],
    },
}


class Interface(unittest.TestCase):
    def test_each_error_is_a_say_error_and_none_is_under_another_one(self):
        self.assertEqual(errors.SayError.__bases__, (ValueError,))
        for name in VALUES:
            with self.subTest(name=name):
                self.assertEqual(getattr(errors, name).__bases__, (errors.SayError,))
                self.assertEqual(getattr(errors, name).__module__, "saylore.errors")

    def test_each_error_has_its_values(self):
        for name, values in VALUES.items():
            with self.subTest(name=name):
                handed = list(range(5, 5 + len(values)))
                made = getattr(errors, name)(*handed)
                self.assertEqual([getattr(made, value) for value in values], handed)
                self.assertIsInstance(str(made), str)

    def test_functions_are_defined_in_their_files_with_their_arguments(self):
        for module, functions in FUNCTIONS.items():
            for name, arguments in functions.items():
                with self.subTest(name=name):
                    function = getattr(module, name)
                    self.assertEqual(function.__module__, module.__name__)
                    self.assertEqual(list(inspect.signature(function).parameters), arguments)

    def test_the_sayer_has_its_methods_itself(self):
        self.assertEqual(machines.Sayer.__module__, "saylore.machines")
        self.assertEqual(list(inspect.signature(machines.Sayer).parameters), ["book"])
        for name, arguments in {"feed": ["letter"], "back": [], "end": [], "word": []}.items():
            with self.subTest(name=name):
                method = vars(machines.Sayer)[name]
                self.assertEqual(list(inspect.signature(method).parameters), ["self", *arguments])


if __name__ == "__main__":
    unittest.main()
