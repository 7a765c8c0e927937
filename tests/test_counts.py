"""Point 11: payloads in their order, and the mean stuffing."""

import unittest
from fractions import Fraction

from edgelink.counts import (
    counts, index_of, length_bounds, mean_stuffing, payload_at, payloads_by_length, zeros_in,
)
from edgelink.frames import frame_bits
from edgelink.stuffing import greatest_stuffing
from samples import LIMITS, all_bits, some_bits, stuffed

SIZES = range(11)


def inserted(limit, payload):
    """Return the number of inserted zeros, from bits that were stuffed one by one."""
    return len(stuffed(limit, payload)) - len(payload)


def payloads_by_zeros(limit, size):
    """Return all payloads of a size, ascending, for each number of inserted zeros."""
    found = [[] for _ in range(size // limit + 1)]
    for payload in all_bits(size):
        found[inserted(limit, payload)].append(payload)
    return found


class ZerosInTest(unittest.TestCase):
    def test_known_payloads(self):
        self.assertEqual(zeros_in(2, ""), 0)
        self.assertEqual(zeros_in(2, "1"), 0)
        self.assertEqual(zeros_in(2, "11"), 1)
        self.assertEqual(zeros_in(2, "1101111"), 3)
        self.assertEqual(zeros_in(7, "1111111"), 1)
        self.assertEqual(zeros_in(3, "1" * 256), 85)

    def test_all_small_payloads(self):
        for limit in LIMITS:
            for size in SIZES:
                for payload in all_bits(size):
                    self.assertEqual(zeros_in(limit, payload), inserted(limit, payload))


class CountsTest(unittest.TestCase):
    def test_all_small_payloads(self):
        for limit in LIMITS:
            for size in SIZES:
                expected = [len(payloads) for payloads in payloads_by_zeros(limit, size)]
                self.assertEqual(counts(limit, size), expected)

    def test_known_counts(self):
        self.assertEqual(counts(2, 0), [1])
        self.assertEqual(counts(2, 2), [3, 1])
        self.assertEqual(counts(2, 4), [8, 7, 1])
        self.assertEqual(counts(7, 7), [127, 1])

    def test_24_bits(self):
        for limit in LIMITS:
            found = counts(limit, 24)
            self.assertEqual(len(found), greatest_stuffing(limit, 24) + 1)
            self.assertEqual(sum(found), 2 ** 24)
            self.assertEqual(found[-1], sum(1 for payload in self.payloads_with_most_zeros(limit)))
            # None is inserted if no run of ones is as long as the limit.
            without = [2 ** size for size in range(limit)]
            for size in range(limit, 25):
                without.append(sum(without[size - limit:size]))
            self.assertEqual(found[0], without[24])

    def payloads_with_most_zeros(self, limit):
        """Return all payloads of 24 bits with the most inserted zeros: runs of the limit, and a few bits."""
        ones, most = "1" * limit, 24 // limit
        found = {""}
        for _ in range(24):
            longer = {payload + more for payload in found for more in ("0", "1", ones)}
            found = {payload for payload in found | longer
                     if len(payload) <= 24 and inserted(limit, payload) + (24 - len(payload)) // limit >= most}
        return [payload for payload in found if len(payload) == 24 and inserted(limit, payload) == most]


class PayloadAtTest(unittest.TestCase):
    def test_all_small_payloads(self):
        for limit in LIMITS:
            for size in SIZES:
                for zeros, payloads in enumerate(payloads_by_zeros(limit, size)):
                    found = [payload_at(limit, size, zeros, index) for index in range(len(payloads))]
                    self.assertEqual(found, payloads)

    def test_none_below_0_and_behind_the_last_one(self):
        for limit in LIMITS:
            for size in SIZES:
                for zeros, payloads in enumerate(payloads_by_zeros(limit, size)):
                    for index in (-1, -2, -len(payloads), len(payloads), len(payloads) + 1, 10 ** 80):
                        self.assertIsNone(payload_at(limit, size, zeros, index))

    def test_none_for_a_number_of_zeros_that_no_payload_has(self):
        for limit in LIMITS:
            for size in SIZES:
                most = size // limit
                for zeros in (-1, -2, -most - 1, most + 1, most + 2, 1000):
                    for index in (-1, 0, 1):
                        self.assertIsNone(payload_at(limit, size, zeros, index))

    def test_none_at_256_bits(self):
        self.assertIsNone(payload_at(2, 256, 129, 0))
        self.assertEqual(payload_at(2, 256, 128, 0), "1" * 256)
        self.assertIsNone(payload_at(2, 256, 128, 1))
        self.assertEqual(payload_at(7, 256, 0, 0), "0" * 256)
        self.assertIsNone(payload_at(7, 256, 0, 2 ** 256))


class IndexOfTest(unittest.TestCase):
    def test_all_small_payloads(self):
        for limit in LIMITS:
            for size in SIZES:
                for payloads in payloads_by_zeros(limit, size):
                    found = [index_of(limit, payload) for payload in payloads]
                    self.assertEqual(found, list(range(len(payloads))))

    def test_both_lead_back_at_24_and_256_bits(self):
        for limit in LIMITS:
            for size in (24, 256):
                for seed in range(6):
                    payload = some_bits(seed, size, ones=seed + 1)
                    index = index_of(limit, payload)
                    self.assertEqual(payload_at(limit, size, inserted(limit, payload), index), payload)

    def test_both_lead_back_from_an_index(self):
        for limit in LIMITS:
            for size in (24, 256):
                for zeros in (0, 1, 2, size // limit):
                    last = counts(limit, size)[zeros] - 1
                    for index in (0, last // 3, last // 2, last):
                        payload = payload_at(limit, size, zeros, index)
                        self.assertEqual(len(payload), size)
                        self.assertEqual(inserted(limit, payload), zeros)
                        self.assertEqual(index_of(limit, payload), index)
                    self.assertIsNone(payload_at(limit, size, zeros, last + 1))


class MeanStuffingTest(unittest.TestCase):
    def test_0_is_0_of_1(self):
        for limit in LIMITS:
            for size in range(limit):
                self.assertEqual(mean_stuffing(limit, size), (0, 1))

    def test_known_means(self):
        self.assertEqual(mean_stuffing(2, 2), (1, 4))
        self.assertEqual(mean_stuffing(2, 3), (3, 8))
        self.assertEqual(mean_stuffing(2, 4), (9, 16))
        self.assertEqual(mean_stuffing(2, 5), (23, 32))

    def test_against_all_small_payloads_in_lowest_terms(self):
        for limit in LIMITS:
            for size in SIZES:
                total = sum(inserted(limit, payload) for payload in all_bits(size))
                mean = Fraction(total, 2 ** size)
                self.assertEqual(mean_stuffing(limit, size), (mean.numerator, mean.denominator))

    def test_some_are_shortened(self):
        shortened = [(limit, size) for limit in LIMITS for size in range(limit, 24)
                     if mean_stuffing(limit, size)[1] < 2 ** size]
        self.assertTrue(shortened)
        for limit, size in shortened:
            total = sum(zeros * many for zeros, many in enumerate(counts(limit, size)))
            mean = Fraction(total, 2 ** size)
            self.assertEqual(mean_stuffing(limit, size), (mean.numerator, mean.denominator))


class LengthsTest(unittest.TestCase):
    def test_against_all_small_payloads(self):
        for limit in LIMITS:
            for size in SIZES:
                lengths = [len(frame_bits(limit, payload)) for payload in all_bits(size)]
                self.assertEqual(length_bounds(limit, size), (min(lengths), max(lengths)))
                for length in range(min(lengths) - 3, max(lengths) + 4):
                    self.assertEqual(payloads_by_length(limit, size, length), lengths.count(length))

    def test_known_bounds(self):
        self.assertEqual(length_bounds(2, 0), (10, 10))
        self.assertEqual(length_bounds(2, 5), (15, 17))
        self.assertEqual(length_bounds(7, 256), (276, 312))

    def test_no_payload_of_such_a_length(self):
        for limit in LIMITS:
            for length in (-1, 0, 2 * limit + 5, 1000):
                self.assertEqual(payloads_by_length(limit, 8, length), 0)
            self.assertEqual(payloads_by_length(limit, 0, 2 * limit + 6), 1)


if __name__ == "__main__":
    unittest.main()
