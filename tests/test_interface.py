"""The names of the interface: each stands in its own file, with its own arguments."""

import unittest
from importlib import import_module
from inspect import isclass, signature

FUNCTIONS = {
    "bits": {"bits_of": "numbers", "bytes_of": "bits"},
    "checks": {
        "added": "one two", "check_bits": "generator bits", "is_intact": "generator bits",
        "pack": "generator numbers", "unpack": "generator bits", "burst": "one two", "next_intact": "generator bits",
    },
    "stuffing": {
        "stuff": "limit bits", "unstuff": "limit bits", "greatest_stuffing": "limit count", "run_of_ones": "bits",
    },
}

CLASSES = {
    "errors": {"LinkError": None, "Refused": "self what", "BadTrace": "self line what"},
}


def arguments(called):
    """Return the names of the arguments, one space between them."""
    return " ".join(signature(called).parameters)


class InterfaceTest(unittest.TestCase):
    def test_functions(self):
        for file, functions in FUNCTIONS.items():
            module = import_module(f"edgelink.{file}")
            for name, expected in functions.items():
                function = getattr(module, name)
                self.assertEqual(function.__module__, module.__name__)
                self.assertEqual(arguments(function), expected, name)

    def test_classes(self):
        for file, classes in CLASSES.items():
            module = import_module(f"edgelink.{file}")
            for name, expected in classes.items():
                found = getattr(module, name)
                self.assertTrue(isclass(found))
                self.assertEqual(found.__module__, module.__name__)
                if expected is not None:
                    self.assertEqual(arguments(vars(found)["__init__"]), expected, name)


if __name__ == "__main__":
    unittest.main()
