"""Point 8: stuffing."""

import unittest

from edgelink.stuffing import greatest_stuffing, run_of_ones, stuff, unstuff
from samples import LIMITS, all_bits, all_bits_to, some_bits, stuffed


class StuffTest(unittest.TestCase):
    def test_zero_behind_a_run(self):
        for limit in LIMITS:
            ones = "1" * limit
            self.assertEqual(stuff(limit, ones + "01"), ones + "001")
            self.assertEqual(stuff(limit, "0" + ones + "0"), "0" + ones + "00")

    def test_zero_at_the_very_end(self):
        for limit in LIMITS:
            ones = "1" * limit
            self.assertEqual(stuff(limit, ones), ones + "0")
            self.assertEqual(stuff(limit, "10" + ones), "10" + ones + "0")

    def test_shorter_run_has_no_zero(self):
        for limit in LIMITS:
            for bits in ("", "0", "1" * (limit - 1), ("1" * (limit - 1) + "0") * 3):
                self.assertEqual(stuff(limit, bits), bits)

    def test_run_is_counted_anew_behind_an_inserted_zero(self):
        for limit in LIMITS:
            ones = "1" * limit
            self.assertEqual(stuff(limit, ones + "1"), ones + "01")
            self.assertEqual(stuff(limit, ones * 2), (ones + "0") * 2)
            self.assertEqual(stuff(limit, ones * 3 + "10"), (ones + "0") * 3 + "10")

    def test_known_bits(self):
        self.assertEqual(stuff(2, "1101111"), "11001101" + "10")
        self.assertEqual(stuff(5, "011111101111101"), "01111101011111001")

    def test_all_small_bits(self):
        for limit in LIMITS:
            for bits in all_bits_to(11):
                self.assertEqual(stuff(limit, bits), stuffed(limit, bits))

    def test_long_bits(self):
        for limit in LIMITS:
            for seed in range(10):
                bits = some_bits(seed, 256, ones=4)
                self.assertEqual(stuff(limit, bits), stuffed(limit, bits))
            self.assertEqual(stuff(limit, "1" * 256), stuffed(limit, "1" * 256))


class UnstuffTest(unittest.TestCase):
    def test_leads_back(self):
        for limit in LIMITS:
            for bits in all_bits_to(10):
                self.assertEqual(unstuff(limit, stuff(limit, bits)), bits)
            for seed in range(10):
                bits = some_bits(seed, 256, ones=4)
                self.assertEqual(unstuff(limit, stuff(limit, bits)), bits)

    def test_none_exactly_for_the_stuffing_of_none(self):
        for limit in LIMITS:
            sources = {stuffed(limit, bits): bits for bits in all_bits_to(10)}
            for bits in all_bits_to(10):
                self.assertEqual(unstuff(limit, bits), sources.get(bits))

    def test_run_that_is_too_long(self):
        for limit in LIMITS:
            ones = "1" * limit
            for bits in (ones + "1", ones + "10", "0" + ones + "10", ones + "0" + ones + "10", ones * 2 + "0"):
                self.assertIsNone(unstuff(limit, bits))

    def test_end_without_the_zero(self):
        for limit in LIMITS:
            ones = "1" * limit
            for bits in (ones, "0" + ones, ones + "0" + ones, "1" * (limit - 1) + "0" + ones):
                self.assertIsNone(unstuff(limit, bits))
                self.assertIsNotNone(unstuff(limit, bits + "0"))

    def test_no_bits(self):
        for limit in LIMITS:
            self.assertEqual(unstuff(limit, ""), "")


class GreatestStuffingTest(unittest.TestCase):
    def test_against_all_bits(self):
        for limit in LIMITS:
            for count in range(12):
                inserted = [len(stuffed(limit, bits)) - count for bits in all_bits(count)]
                self.assertEqual(greatest_stuffing(limit, count), max(inserted))

    def test_one_more_at_each_multiple_of_the_limit(self):
        for limit in LIMITS:
            self.assertEqual(greatest_stuffing(limit, 0), 0)
            self.assertEqual(greatest_stuffing(limit, limit - 1), 0)
            self.assertEqual(greatest_stuffing(limit, limit), 1)
            self.assertEqual(greatest_stuffing(limit, 3 * limit - 1), 2)
            self.assertEqual(greatest_stuffing(limit, 3 * limit), 3)


class RunOfOnesTest(unittest.TestCase):
    def test_no_bits_and_no_ones(self):
        self.assertEqual(run_of_ones(""), 0)
        self.assertEqual(run_of_ones("0"), 0)
        self.assertEqual(run_of_ones("0000"), 0)

    def test_longest_run_at_each_place(self):
        self.assertEqual(run_of_ones("1"), 1)
        self.assertEqual(run_of_ones("1110110"), 3)
        self.assertEqual(run_of_ones("0110111011"), 3)
        self.assertEqual(run_of_ones("1011"), 2)
        self.assertEqual(run_of_ones("1" * 256), 256)
        self.assertEqual(run_of_ones("0101010"), 1)

    def test_all_small_bits(self):
        for bits in all_bits_to(9):
            run = run_of_ones(bits)
            self.assertIn("1" * run, bits)
            self.assertNotIn("1" * (run + 1), bits)

    def test_stuffed_bits_have_no_longer_run_than_the_limit(self):
        for limit in LIMITS:
            for seed in range(10):
                self.assertLessEqual(run_of_ones(stuff(limit, some_bits(seed, 256, ones=9))), limit)


if __name__ == "__main__":
    unittest.main()
