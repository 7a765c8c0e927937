"""Points 3 and 4: kinds of values, arguments that stay as they are, lists that are shared with nothing."""

import unittest
from copy import deepcopy

from edgelink import bits, checks, stuffing

# Each call of the interface that has landed: a function, and arguments for it.
CALLS = [
    (bits.bits_of, ([1, 2, 250],)),
    (bits.bytes_of, ("0110000011111111",)),
    (bits.bytes_of, ("",)),
    (checks.added, ("0011", "0101")),
    (checks.check_bits, ("1011", "110100")),
    (checks.is_intact, ("1011", "0001011")),
    (checks.pack, ("1011", [7, 255])),
    (checks.unpack, ("11", "1100000000000000" + "0")),
    (checks.burst, ("0110", "1100")),
    (checks.next_intact, ("1011", "0001011")),
    (stuffing.stuff, (2, "11011")),
    (stuffing.unstuff, (2, "1100110")),
    (stuffing.greatest_stuffing, (3, 10)),
    (stuffing.run_of_ones, ("0110111",)),
]


def kinds(value):
    """Return the kinds of a value and of its items."""
    if isinstance(value, (list, tuple)):
        return {type(value)}.union(*[kinds(item) for item in value])
    return {type(value)}


class UnchangedTest(unittest.TestCase):
    def test_arguments_stay_as_they_are(self):
        for function, arguments in CALLS:
            given = deepcopy(arguments)
            function(*given)
            self.assertEqual(given, arguments, function.__name__)

    def test_a_returned_list_is_shared_with_nothing(self):
        for function, arguments in CALLS:
            given = deepcopy(arguments)
            first = function(*given)
            kept = deepcopy(first)
            if isinstance(first, list):
                first.append("more")
                first[:1] = ["other"]
            self.assertEqual(given, arguments, function.__name__)
            self.assertEqual(function(*given), kept, function.__name__)

    def test_a_passed_list_is_shared_with_nothing(self):
        for function, arguments in CALLS:
            given = deepcopy(arguments)
            found = function(*given)
            kept = deepcopy(found)
            for argument in given:
                if isinstance(argument, list):
                    argument.clear()
            self.assertEqual(found, kept, function.__name__)

    def test_values_are_of_the_kinds_of_the_interface(self):
        for function, arguments in CALLS:
            found = kinds(function(*deepcopy(arguments)))
            self.assertLessEqual(found, {int, str, bool, list, tuple, type(None)}, function.__name__)
            self.assertEqual(bool in found, function.__name__.startswith("is_"), function.__name__)


if __name__ == "__main__":
    unittest.main()
