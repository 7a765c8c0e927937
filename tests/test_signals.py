"""Points 12 and 13: signals, levels, and two signals together."""

import unittest
from random import Random

from edgelink.errors import Refused
from edgelink.signals import bits_between, level_at, merged, signal_of
from samples import all_bits_to


def some_signal(seed, many=20, furthest=60):
    """Return a signal, always the same for a seed."""
    return sorted(Random(seed).sample(range(furthest), many))


class SignalOfTest(unittest.TestCase):
    def refused(self, *arguments):
        with self.assertRaises(Refused) as context:
            signal_of(*arguments)
        self.assertEqual(context.exception.what, "edges out of order")

    def test_edges_of_zeros(self):
        self.assertEqual(signal_of("0110", 100, 10, ()), [100, 130])
        self.assertEqual(signal_of("1010011", 2000, 80, ()), [2080, 2240, 2320])
        self.assertEqual(signal_of("000", 0, 1, ()), [0, 1, 2])

    def test_bits_without_zeros_and_no_bits(self):
        self.assertEqual(signal_of("", 50, 10, ()), [])
        self.assertEqual(signal_of("", 50, 10, (5, -5)), [])
        self.assertEqual(signal_of("1111", 50, 10, ()), [])
        self.assertEqual(signal_of("1111", 0, 10, (-500, 5)), [])

    def test_shifts_are_those_of_edges_in_order(self):
        self.assertEqual(signal_of("0100", 100, 10, (1, -2, 3)), [101, 118, 133])
        self.assertEqual(signal_of("110110", 100, 10, (-4, 4)), [116, 154])

    def test_fewer_shifts_than_edges(self):
        self.assertEqual(signal_of("00000", 100, 10, (4, -4)), [104, 106, 120, 130, 140])
        self.assertEqual(signal_of("0000", 100, 10, (3,)), [103, 110, 120, 130])

    def test_more_shifts_than_edges(self):
        self.assertEqual(signal_of("010", 100, 10, (1, 2, 3, -500)), [101, 122])

    def test_time_0_is_allowed(self):
        self.assertEqual(signal_of("0", 0, 10, ()), [0])
        self.assertEqual(signal_of("00", 5, 10, (-5,)), [0, 15])
        self.assertEqual(signal_of("10", 5, 10, (-15,)), [0])

    def test_before_time_0_is_refused(self):
        self.refused("0", 0, 10, (-1,))
        self.refused("00", 5, 10, (-6,))
        self.refused("10", 5, 10, (-16,))

    def test_at_the_time_of_the_one_before_is_refused(self):
        self.refused("00", 100, 10, (10,))
        self.refused("00", 100, 10, (0, -10))
        self.refused("00", 100, 10, (5, -5))
        self.refused("0010", 100, 10, (0, 0, -20))
        self.assertEqual(signal_of("00", 100, 10, (5, -4)), [105, 106])

    def test_before_the_one_before_is_refused(self):
        self.refused("00", 100, 10, (11,))
        self.refused("00", 100, 10, (0, -11))
        self.refused("00", 0, 10, (0, -500))
        self.refused("000", 100, 10, (0, 500, 0))

    def test_later_edges_are_looked_at_too(self):
        self.refused("0" * 50, 0, 10, (0,) * 49 + (-10,))
        self.assertEqual(len(signal_of("0" * 50, 0, 10, (0,) * 49 + (-9,))), 50)

    def test_all_small_bits(self):
        for bits in all_bits_to(7):
            expected = [30 + 7 * place for place, bit in enumerate(bits) if bit == "0"]
            self.assertEqual(signal_of(bits, 30, 7, ()), expected)
            self.assertEqual(signal_of(bits, 30, 7, (2, -3)), [
                time + shift for time, shift in zip(expected, [2, -3, 0, 0, 0, 0, 0])
            ])


class BitsBetweenTest(unittest.TestCase):
    def test_nearest_number(self):
        self.assertEqual(bits_between([0, 10, 30, 60], 10), [1, 2, 3])
        self.assertEqual(bits_between([5, 14, 35, 68, 70], 10), [1, 2, 3, 0])

    def test_half_is_rounded_up(self):
        self.assertEqual(bits_between([0, 5, 20, 45], 10), [1, 2, 3])
        self.assertEqual(bits_between([0, 4, 18, 42], 10), [0, 1, 2])
        self.assertEqual(bits_between([100, 104, 107], 8), [1, 0])

    def test_odd_bit_time(self):
        self.assertEqual(bits_between([0, 3], 7), [0])
        self.assertEqual(bits_between([0, 4], 7), [1])
        self.assertEqual(bits_between([0, 10], 7), [1])
        self.assertEqual(bits_between([0, 11], 7), [2])
        self.assertEqual(bits_between([3, 4, 9], 1), [1, 5])

    def test_against_nearness(self):
        for bit_time in range(1, 12):
            for distance in range(1, 60):
                nearest = min(range(70), key=lambda many: (abs(many * bit_time - distance), -many))
                self.assertEqual(bits_between([9, 9 + distance], bit_time), [nearest])

    def test_fewer_than_two_edges(self):
        self.assertEqual(bits_between([], 10), [])
        self.assertEqual(bits_between([7], 10), [])


class MergedTest(unittest.TestCase):
    def test_edges_of_both(self):
        self.assertEqual(merged([1, 5, 9], [2, 7]), [1, 2, 5, 7, 9])
        self.assertEqual(merged([8, 9], [1, 2]), [1, 2, 8, 9])

    def test_edges_at_the_same_time_fall_out(self):
        self.assertEqual(merged([1, 5, 9], [5, 7]), [1, 7, 9])
        self.assertEqual(merged([0, 1, 2], [0, 2]), [1])

    def test_with_an_empty_signal(self):
        self.assertEqual(merged([3, 4], []), [3, 4])
        self.assertEqual(merged([], [3, 4]), [3, 4])
        self.assertEqual(merged([], []), [])

    def test_with_itself(self):
        signal = [0, 3, 8, 1000000]
        self.assertEqual(merged(signal, signal), [])
        self.assertEqual(signal, [0, 3, 8, 1000000])

    def test_levels_of_both_together(self):
        for seed in range(20):
            one, two = some_signal(seed), some_signal(seed + 100)
            both = merged(one, two)
            self.assertEqual(both, sorted(set(both)))
            for time in range(-1, 62):
                self.assertEqual(level_at(both, time), level_at(one, time) ^ level_at(two, time))


class LevelAtTest(unittest.TestCase):
    def test_each_place(self):
        signal = [10, 20, 35]
        for time, level in [(-5, 0), (0, 0), (9, 0), (10, 1), (11, 1), (19, 1), (20, 0), (34, 0), (35, 1), (36, 1),
                            (1000000, 1)]:
            self.assertEqual(level_at(signal, time), level)

    def test_edge_at_time_0(self):
        self.assertEqual([level_at([0, 1], time) for time in (-1, 0, 1, 2)], [0, 1, 0, 0])

    def test_no_edges(self):
        for time in (-1, 0, 1, 100):
            self.assertEqual(level_at([], time), 0)

    def test_changes_at_each_edge_and_nowhere_else(self):
        for seed in range(10):
            signal = some_signal(seed)
            changes = [time for time in range(60) if level_at(signal, time) != level_at(signal, time - 1)]
            self.assertEqual(changes, signal)


if __name__ == "__main__":
    unittest.main()
