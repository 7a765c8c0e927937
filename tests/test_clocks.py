"""Points 33 and 34: bit times that explain detections, and what bars them."""

import unittest
from random import Random

from edgelink.clocks import barring, explained, is_barred, measured
from edgelink.errors import Refused
from edgelink.receivers import detection_polls


def windows(receiver, phase, polls):
    """Return the first and the last time of an edge that each poll detects."""
    return [(phase + (number - 1) * receiver[0] + 1, phase + number * receiver[0]) for number in polls]


def starts(receiver, phase, polls, bits, jitter, bit_time):
    """Return all starts with which a bit time explains detections, by trying them one by one."""
    found = []
    places = [sum(bits[:count]) for count in range(len(polls))]
    first, last = windows(receiver, phase, polls)[0]
    for start in range(first - jitter, last + jitter + 1):
        ways = [any(low <= start + place * bit_time + shift <= high for shift in range(-jitter, jitter + 1))
                for place, (low, high) in zip(places, windows(receiver, phase, polls))]
        if all(ways):
            found.append(start)
    return found


def some_detections(random):
    """Return detections, with a bit time or without one that explains them."""
    poll = random.randint(1, 6)
    receiver, phase = (poll, random.randint(3, 8)), random.randrange(poll)
    jitter = random.choice([0, 0, 1, 3])
    bits = [random.randint(1, 4) for _ in range(random.randint(1, 5))]
    bit_time = random.randint(2 * jitter + poll, 20)
    start = random.randint(phase + jitter + 1, 60)
    times = [start + sum(bits[:count]) * bit_time + random.randint(-jitter, jitter) for count in range(len(bits) + 1)]
    polls = detection_polls(receiver, phase, times)
    if random.random() < 0.5:
        place = random.randrange(len(polls))
        polls[place] += random.choice([-2, -1, 1, 2])
    if len(polls) != len(bits) + 1 or polls[0] < 1 or any(one >= other for one, other in zip(polls, polls[1:])):
        return some_detections(random)
    return receiver, phase, polls, bits, jitter


def needs(receiver, phase, polls, bits, jitter):
    """Return for each pair of edges what it requires and what it lets, as point 33 tells it."""
    first = [phase + (number - 1) * receiver[0] + 1 - jitter for number in polls]
    last = [phase + number * receiver[0] + jitter for number in polls]
    found = {}
    for b in range(len(polls)):
        for a in range(b):
            between = sum(bits[a:b])
            requires = min(time for time in range(-2000, 2000) if time * between >= first[b] - last[a])
            lets = max(time for time in range(-2000, 2000) if time * between <= last[b] - first[a])
            found[a, b] = (requires, lets)
    return found


class RefusedTest(unittest.TestCase):
    def told(self, what, polls, bits):
        for call in (lambda: measured((20, 4), 0, polls, bits, 0), lambda: barring((20, 4), 0, polls, bits, 0),
                     lambda: explained((20, 4), 0, polls, bits, 0, 80)):
            with self.assertRaises(Refused) as context:
                call()
            self.assertEqual(context.exception.what, what)
        pairs = ((0, 1), (0, 1))
        if what == "too few polls":
            self.assertFalse(is_barred((20, 4), 0, polls, bits, 0, pairs))
        else:
            with self.assertRaises(Refused) as context:
                is_barred((20, 4), 0, polls, bits, 0, pairs)
            self.assertEqual(context.exception.what, what)

    def test_polls_out_of_order(self):
        for polls in ([5, 4], [5, 5], [1, 9, 8], [0, 4], [0], [-1, 4], [3, 0], [-3, -2, 5]):
            self.told("polls out of order", polls, [1] * (len(polls) - 1))

    def test_bits_do_not_fit(self):
        for polls, bits in [([4, 8], []), ([4, 8], [1, 1]), ([4], [1]), ([4, 8, 12], [1]), ([4, 8], [0]),
                            ([4, 8, 12], [1, 0]), ([4, 8, 12], [-1, 1]), ([4], [0])]:
            self.told("bits do not fit", polls, bits)

    def test_no_polls(self):
        self.told("bits do not fit", [], [])
        self.told("bits do not fit", [], [1])

    def test_one_poll(self):
        self.told("too few polls", [4], [])
        self.told("too few polls", [1], [])

    def test_which_comes_first(self):
        self.told("polls out of order", [8, 4], [0, 1, 2])
        self.told("polls out of order", [0], [])
        self.told("polls out of order", [0], [1])
        self.told("bits do not fit", [4], [1])
        self.told("bits do not fit", [4], [0])

    def test_poll_1_is_allowed(self):
        self.assertEqual(measured((20, 4), 0, [1, 5], [1], 0), (61, 99))


class MeasuredTest(unittest.TestCase):
    def test_some(self):
        # Edges from 61 to 80, and from 141 to 160.
        self.assertEqual(measured((20, 4), 0, [4, 8], [1], 0), (61, 99))
        self.assertEqual(measured((20, 4), 7, [4, 8], [1], 0), (61, 99))
        self.assertEqual(measured((20, 4), 0, [4, 8], [1], 5), (51, 109))
        self.assertEqual(measured((20, 4), 0, [4, 8], [2], 0), (31, 49))
        self.assertEqual(measured((20, 4), 0, [4, 8, 12, 16], [1, 1, 1], 0), (74, 86))
        self.assertEqual(measured((1, 4), 0, [4, 8], [2], 0), (2, 2))

    def test_none(self):
        self.assertIsNone(measured((1, 4), 0, [4, 8], [3], 0))
        self.assertIsNone(measured((20, 4), 0, [4, 8, 20], [1, 1], 0))
        self.assertEqual(measured((20, 4), 0, [4, 8, 20], [1, 3], 0), (76, 84))

    def test_bit_times_are_at_least_1(self):
        self.assertEqual(measured((20, 4), 0, [4, 5], [1], 3), (1, 45))
        self.assertEqual(measured((20, 4), 0, [4, 5], [1], 500), (1, 1039))
        self.assertIsNone(measured((1, 4), 0, [4, 5], [2], 0))
        self.assertIsNone(measured((20, 4), 0, [1, 2], [40], 0))
        self.assertEqual(measured((20, 4), 0, [1, 2], [39], 0), (1, 1))

    def test_against_trying_all_bit_times(self):
        random = Random(33)
        found = {True: 0, False: 0}
        for _ in range(150):
            told = some_detections(random)
            expected = [time for time in range(1, 45) if starts(*told, time)]
            self.assertEqual(measured(*told), (expected[0], expected[-1]) if expected else None, told)
            self.assertEqual(len(expected), expected[-1] - expected[0] + 1 if expected else 0)
            found[bool(expected)] += 1
        self.assertGreater(min(found.values()), 25)


class ExplainedTest(unittest.TestCase):
    def test_some(self):
        # The edge at 160, or before, is 99 behind one from 61 on.
        self.assertEqual(explained((20, 4), 0, [4, 8], [1], 0, 99), (61, (0, 0)))
        self.assertEqual(explained((20, 4), 0, [4, 8], [1], 0, 61), (80, (0, 0)))
        self.assertEqual(explained((20, 4), 0, [4, 8], [1], 0, 80), (61, (0, 0)))
        self.assertIsNone(explained((20, 4), 0, [4, 8], [1], 0, 100))
        self.assertIsNone(explained((20, 4), 0, [4, 8], [1], 0, 60))
        self.assertEqual(explained((20, 4), 0, [4, 8], [1], 5, 80), (56, (5, 5)))
        self.assertEqual(explained((20, 4), 0, [4, 8], [1], 5, 109), (56, (5, -5)))
        self.assertEqual(explained((20, 4), 0, [4, 8], [1], 5, 51), (85, (-5, 5)))
        self.assertEqual(explained((20, 4), 0, [4, 8], [1], 5, 95), (56, (5, 0)))

    def test_start_can_be_below_0(self):
        self.assertEqual(explained((20, 4), 0, [1, 5], [1], 30, 80), (-29, (30, 30)))

    def test_bit_times_below_1_do_not_explain(self):
        self.assertIsNone(explained((20, 4), 0, [4, 5], [1], 30, 0))
        self.assertIsNone(explained((20, 4), 0, [4, 5], [1], 30, -1))
        self.assertEqual(explained((20, 4), 0, [4, 5], [1], 30, 1), (50, (11, 30)))

    def test_ends_and_beside_them(self):
        random = Random(34)
        seen = 0
        for _ in range(400):
            told = some_detections(random)
            bounds = measured(*told)
            if bounds is None:
                self.assertTrue(all(explained(*told, time) is None for time in range(-1, 45)))
                continue
            seen += 1
            for bit_time in {bounds[0], bounds[1], (bounds[0] + bounds[1]) // 2}:
                self.check_least(told, bit_time)
            self.assertIsNone(explained(*told, bounds[0] - 1))
            self.assertIsNone(explained(*told, bounds[1] + 1))
        self.assertGreater(seen, 150)

    def check_least(self, told, bit_time):
        receiver, phase, polls, bits, jitter = told
        start, shifts = explained(*told, bit_time)
        self.assertEqual(start, starts(*told, bit_time)[0])
        self.assertIsInstance(shifts, tuple)
        signal = [start + sum(bits[:count]) * bit_time + shift for count, shift in enumerate(shifts)]
        self.assertEqual(detection_polls(receiver, phase, signal), polls)
        for time, shift, (first, last) in zip(signal, shifts, windows(receiver, phase, polls), strict=True):
            self.assertLessEqual(abs(shift), jitter)
            self.assertTrue(first <= time <= last)
            # A lesser shift to the same side would not do.
            if shift != 0:
                self.assertFalse(first <= time - shift // abs(shift) <= last)


class BarringTest(unittest.TestCase):
    def test_none_if_some_bit_time_explains(self):
        self.assertIsNone(barring((20, 4), 0, [4, 8], [1], 0))
        self.assertIsNone(barring((20, 4), 0, [1, 2], [39], 0))

    def test_two_pairs(self):
        # The second gap requires 221, and the first one lets 99.
        self.assertEqual(barring((20, 4), 0, [4, 8, 20], [1, 1], 0), ((1, 2), (0, 1)))
        self.assertEqual(barring((20, 4), 0, [4, 16, 20], [1, 1], 0), ((0, 1), (1, 2)))

    def test_one_pair_lets_none(self):
        self.assertEqual(barring((20, 4), 0, [1, 2], [40], 0), ((0, 1), (0, 1)))
        self.assertEqual(barring((1, 4), 0, [4, 8], [3], 0), ((0, 1), (0, 1)))

    def test_least_later_edge_of_several_pairs(self):
        # All gaps require the same, and let the same: 4 polls' time for 3 bits.
        self.assertEqual(barring((1, 4), 0, [4, 8, 12, 16], [3, 3, 3], 0), ((0, 1), (0, 1)))
        # Pairs (1, 2) and (3, 4) require the same, (0, 1) and (2, 3) let the same.
        self.assertEqual(barring((20, 4), 0, [4, 8, 20, 24, 36], [1, 1, 1, 1], 0), ((1, 2), (0, 1)))

    def test_least_earlier_edge_of_several_pairs(self):
        # 17 and 14 polls of 4 for 4 and 3 bits: (0, 2) and (1, 2) require 18, (0, 1) lets 17.
        self.assertEqual(barring((4, 5), 0, [3, 20, 34], [4, 3], 0), ((0, 2), (0, 1)))
        # 15 and 18 polls of 3 for 3 and 4 bits: (0, 1) requires 15, (0, 2) and (1, 2) let 14.
        self.assertEqual(barring((3, 5), 2, [4, 19, 37], [3, 4], 0), ((0, 1), (0, 2)))

    def test_against_the_words_of_the_document(self):
        random = Random(36)
        barred = 0
        for _ in range(600):
            told = some_detections(random)
            pairs = barring(*told)
            self.assertEqual(pairs is None, measured(*told) is not None)
            if pairs is None:
                continue
            barred += 1
            found = needs(*told)
            order = sorted(found, key=lambda pair: (pair[1], pair[0]))
            most = max(requires for requires, _ in found.values())
            fewest = min(lets for _, lets in found.values())
            self.assertEqual(pairs, ([pair for pair in order if found[pair][0] == most][0],
                                     [pair for pair in order if found[pair][1] == fewest][0]))
            self.assertIs(is_barred(*told, pairs), True)
        self.assertGreater(barred, 100)


class IsBarredTest(unittest.TestCase):
    DETECTIONS = ((20, 4), 0, [4, 8, 20], [1, 1], 0)

    def test_pairs_that_bar(self):
        self.assertTrue(is_barred(*self.DETECTIONS, ((1, 2), (0, 1))))
        self.assertTrue(is_barred(*self.DETECTIONS, ((0, 2), (0, 1))))
        self.assertTrue(is_barred((20, 4), 0, [1, 2], [40], 0, ((0, 1), (0, 1))))

    def test_pairs_that_do_not(self):
        for pairs in (((0, 1), (1, 2)), ((0, 1), (0, 1)), ((1, 2), (1, 2)), ((0, 2), (0, 2)), ((0, 1), (0, 2))):
            self.assertIs(is_barred(*self.DETECTIONS, pairs), False)
        self.assertFalse(is_barred((20, 4), 0, [4, 8], [1], 0, ((0, 1), (0, 1))))

    def test_pair_that_lets_none_from_1_on(self):
        # The second pair lets 39 for 40 bits; the first one requires no more than 1.
        told = ((20, 4), 0, [1, 2, 3], [40, 1], 0)
        self.assertEqual(needs(*told)[1, 2], (1, 39))
        self.assertTrue(is_barred(*told, ((0, 1), (0, 1))))
        self.assertTrue(is_barred(*told, ((1, 2), (0, 1))))
        self.assertFalse(is_barred(*told, ((0, 1), (1, 2))))
        # It requires less than 0, and lets 0.
        told = ((20, 4), 0, [1, 2, 3], [1000, 1], 100)
        self.assertEqual(needs(*told)[0, 1][1], 0)
        self.assertTrue(is_barred(*told, ((0, 1), (0, 1))))
        self.assertTrue(is_barred(*told, ((1, 2), (0, 1))))

    def test_pair_that_lets_just_1(self):
        told = ((20, 4), 0, [1, 2], [39], 0)
        self.assertEqual(needs(*told), {(0, 1): (1, 1)})
        self.assertFalse(is_barred(*told, ((0, 1), (0, 1))))

    def test_pairs_are_equal_in_what_they_require_and_let(self):
        # Each requires and lets just 4: these do not bar it.
        told = ((1, 4), 0, [4, 8, 12], [1, 1], 0)
        self.assertEqual(measured(*told), (4, 4))
        self.assertEqual(needs(*told), {(0, 1): (4, 4), (1, 2): (4, 4), (0, 2): (4, 4)})
        self.assertFalse(is_barred(*told, ((0, 1), (1, 2))))

    def test_pairs_that_are_none(self):
        good = (1, 2)
        for bad in ((2, 1), (1, 1), (0, 3), (3, 4), (-1, 1), (-2, -1), (1, 300), (2, 2), (0, 0)):
            self.assertIs(is_barred(*self.DETECTIONS, (bad, (0, 1))), False)
            self.assertIs(is_barred(*self.DETECTIONS, (good, bad)), False)
            self.assertIs(is_barred(*self.DETECTIONS, (bad, bad)), False)

    def test_one_poll_has_no_pairs(self):
        self.assertIs(is_barred((20, 4), 0, [4], [], 0, ((0, 0), (0, 0))), False)

    def test_against_all_pairs(self):
        random = Random(37)
        for _ in range(150):
            told = some_detections(random)
            found = needs(*told)
            for one, (requires, _) in found.items():
                for other, (_, lets) in found.items():
                    self.assertEqual(is_barred(*told, (one, other)), requires > lets or lets < 1)


if __name__ == "__main__":
    unittest.main()
