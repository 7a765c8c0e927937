"""Points 17 to 21: hops, their margins, what is safe, and misreadings."""

import unittest
from random import Random

from edgelink.frames import frame_bits, frame_gaps
from edgelink.receivers import detection_polls, gap_bits, receive, received_gaps
from edgelink.signals import signal_of
from edgelink.tolerance import (
    greatest_jitter, is_safe, longest_gap, margin, margins, misreading, safe_bit_times,
)
from samples import LIMITS, is_play, some_bits, some_hop, some_play, told_margins, told_safe


def read_bits(hop, gap):
    """Return all numbers of bits as which a gap is read, by plays with its edges shifted in all ways."""
    least, greatest, jitter, poll, polls_per_bit = hop
    receiver = (poll, polls_per_bit)
    found = set()
    for bit_time in {least, greatest}:
        for apart in range(-2 * jitter, 2 * jitter + 1):
            first = -apart // 2
            signal = [1000 + first, 1000 + gap * bit_time + first + apart]
            for phase in range(poll):
                one, other = detection_polls(receiver, phase, signal)
                found.add(gap_bits(receiver, other - one))
    return found


class MarginTest(unittest.TestCase):
    def test_even_polls_per_bit(self):
        self.assertEqual(margin((80, 84, 3, 20, 4), 1), (14, 30))
        self.assertEqual(margin((80, 84, 3, 20, 4), 2), (14, 26))
        self.assertEqual(margin((80, 84, 3, 20, 4), 9), (14, -2))
        self.assertEqual(margin((78, 84, 3, 20, 4), 9), (-4, -2))

    def test_odd_polls_per_bit(self):
        self.assertEqual(margin((100, 104, 2, 20, 5), 1), (36, 32))
        self.assertEqual(margin((100, 104, 2, 20, 5), 9), (36, 0))
        self.assertEqual(margin((100, 104, 2, 20, 5), 10), (36, -4))
        self.assertEqual(margin((100, 104, 2, 20, 5), 200), (36, -764))

    def test_of_a_list_of_gaps(self):
        self.assertEqual(margins(2, (80, 80, 10, 20, 4)), [(0, 20), (0, 20), (0, 20), (0, 20)])
        for limit in LIMITS:
            self.assertEqual(margins(limit, (78, 84, 3, 20, 4)),
                             [margin((78, 84, 3, 20, 4), gap) for gap in range(1, limit + 3)])

    def test_against_the_words_of_the_document(self):
        random = Random(18)
        for _ in range(300):
            hop = some_hop(random, random.choice(LIMITS), random.random() < 0.5)
            for gap in (1, 2, 3, 9, 40, 1000):
                self.assertEqual(margin(hop, gap), told_margins(hop, gap))

    def test_margin_of_0_and_the_one_beside_it(self):
        # The early margin for 1 bit, and the late one for 4, of hops with a margin of 0 and of one just below.
        self.assertEqual(margin((60, 60, 0, 20, 4), 1)[0], 0)
        self.assertEqual(read_bits((60, 60, 0, 20, 4), 1), {1})
        self.assertEqual(margin((59, 60, 0, 20, 4), 1)[0], -1)
        self.assertEqual(read_bits((59, 60, 0, 20, 4), 1), {0, 1})
        self.assertEqual(margin((85, 85, 10, 20, 4), 4)[1], 0)
        self.assertEqual(read_bits((85, 85, 10, 20, 4), 4), {4})
        self.assertEqual(margin((85, 86, 10, 20, 4), 4)[1], -4)
        self.assertEqual(read_bits((85, 86, 10, 20, 4), 4), {4, 5})
        self.assertEqual(margin((85, 85, 11, 20, 4), 4)[1], -2)
        self.assertEqual(read_bits((85, 85, 11, 20, 4), 4), {4, 5})

    def test_margins_tell_what_is_read(self):
        random = Random(19)
        sides = {(a, b): 0 for a in (True, False) for b in (True, False)}
        for _ in range(600):
            gap, polls_per_bit = random.choice([1, 2, 3, 5, 9]), random.choice([3, 4, 5, 8, 9])
            poll, jitter = random.randint(9, 20), random.randint(0, 3)
            # Bit times with a margin near 0, on either side.
            early = ((2 * gap - 1) * polls_per_bit // 2 * poll + poll + 2 * jitter) // gap
            late = ((2 * gap + 1) * polls_per_bit // 2 * poll - 2 * jitter) // gap
            least = early + random.randint(-1, 2)
            hop = (least, max(least, late + random.randint(-2, 1)), jitter, poll, polls_per_bit)
            enough = tuple(bound >= 0 for bound in margin(hop, gap))
            found = read_bits(hop, gap)
            self.assertEqual(found == {gap}, enough == (True, True), (hop, gap))
            self.assertEqual((min(found) >= gap, max(found) <= gap), enough, (hop, gap))
            sides[enough] += 1
        self.assertGreater(min(sides.values()), 20)


class IsSafeTest(unittest.TestCase):
    def test_near_the_ends_of_the_bit_times_that_are_safe(self):
        random = Random(20)
        for limit in LIMITS:
            for _ in range(40):
                hop = some_hop(random, limit, True)
                _, _, jitter, poll, polls_per_bit = hop
                least, greatest = safe_bit_times(limit, (poll, polls_per_bit), jitter)
                for low, high in [(least, greatest), (least, least), (greatest, greatest), (least - 1, greatest),
                                  (least, greatest + 1), (least - 1, greatest + 1), (least - 7, greatest),
                                  (least, greatest + 7), (least + 1, max(least + 1, greatest)),
                                  (min(least, greatest - 1), greatest - 1)]:
                    near = (low, high, jitter, poll, polls_per_bit)
                    self.assertEqual(is_safe(limit, near), told_safe(limit, near), (limit, near))
                    self.assertEqual(is_safe(limit, near), least <= low and high <= greatest)

    def test_by_the_margins_for_1_and_the_limit_and_2(self):
        random = Random(21)
        for _ in range(400):
            limit = random.choice(LIMITS)
            hop = some_hop(random, limit, random.random() < 0.5)
            bounds = margin(hop, 1) + margin(hop, limit + 2)
            self.assertEqual(is_safe(limit, hop), min(bounds) >= 0)
            self.assertIs(is_safe(limit, hop), told_safe(limit, hop))

    def test_one_margin_alone_is_negative(self):
        self.assertTrue(is_safe(2, (80, 85, 10, 20, 4)))
        self.assertFalse(is_safe(2, (79, 85, 10, 20, 4)))
        self.assertFalse(is_safe(2, (80, 86, 10, 20, 4)))
        self.assertFalse(is_safe(3, (80, 85, 10, 20, 4)))
        # Just a margin for 1 bit is negative, or just one for the limit and 2.
        self.assertEqual([min(pair) < 0 for pair in margins(2, (81, 81, 11, 20, 4))], [True, False, False, False])
        self.assertFalse(is_safe(2, (81, 81, 11, 20, 4)))
        self.assertEqual([min(pair) < 0 for pair in margins(2, (80, 86, 10, 20, 4))], [False, False, False, True])

    def test_receives_every_frame(self):
        random = Random(22)
        for limit in LIMITS:
            for _ in range(60):
                hop = some_hop(random, limit, True)
                payload = some_bits(random.random(), random.randrange(25), ones=random.choice([1, 6]))
                bit_time, shifts, phase = some_play(random, hop, 40)
                signal = signal_of(frame_bits(limit, payload), hop[2] + random.randrange(60), bit_time, shifts)
                self.assertEqual(received_gaps(hop[3:], phase, signal), frame_gaps(limit, payload))
                self.assertEqual(receive(limit, hop[3:], phase, signal), [payload])


class SafeBitTimesTest(unittest.TestCase):
    def test_against_trying_all_bit_times(self):
        random = Random(23)
        found = {True: 0, False: 0}
        for _ in range(60):
            limit, receiver = random.choice(LIMITS), (random.randint(1, 50), random.randint(3, 32))
            jitter = random.choice([0, 1, random.randrange(20), random.randrange(500)])
            bit = receiver[0] * receiver[1]
            safe = [time for time in range(max(1, bit // 2), 2 * bit + 60)
                    if told_safe(limit, (time, time, jitter) + receiver)]
            expected = (safe[0], safe[-1]) if safe else None
            self.assertEqual(safe_bit_times(limit, receiver, jitter), expected)
            found[bool(safe)] += 1
        self.assertGreater(min(found.values()), 5)

    def test_some(self):
        self.assertEqual(safe_bit_times(2, (20, 4), 10), (80, 85))
        self.assertEqual(safe_bit_times(2, (20, 4), 0), (75, 90))
        self.assertEqual(safe_bit_times(2, (20, 4), 13), None)
        self.assertEqual(safe_bit_times(2, (1, 3), 0), (3, 3))
        self.assertEqual(safe_bit_times(7, (50, 32), 500), None)

    def test_bounds_of_bit_times_do_not_matter(self):
        self.assertEqual(safe_bit_times(2, (1, 8), 0), (8, 9))
        self.assertEqual(safe_bit_times(2, (50, 50), 0), (2200, 2812))


class GreatestJitterTest(unittest.TestCase):
    def test_is_safe_and_one_more_is_not(self):
        random = Random(24)
        for _ in range(200):
            limit = random.choice(LIMITS)
            hop = some_hop(random, limit, random.random() < 0.7)
            found = greatest_jitter(limit, hop)
            for jitter in (0, 1, hop[2] + 1, 24):
                self.assertEqual(greatest_jitter(limit, hop[:2] + (jitter,) + hop[3:]), found)
            if found is None:
                self.assertFalse(told_safe(limit, hop[:2] + (0,) + hop[3:]))
            else:
                self.assertTrue(told_safe(limit, hop[:2] + (found,) + hop[3:]))
                self.assertFalse(told_safe(limit, hop[:2] + (found + 1,) + hop[3:]))

    def test_some(self):
        self.assertEqual(greatest_jitter(2, (80, 85, 500, 20, 4)), 10)
        self.assertEqual(greatest_jitter(2, (80, 84, 0, 20, 4)), 10)
        self.assertEqual(greatest_jitter(2, (75, 90, 3, 20, 4)), 0)
        self.assertEqual(greatest_jitter(2, (74, 90, 3, 20, 4)), None)
        self.assertEqual(greatest_jitter(2, (75, 91, 0, 20, 4)), None)
        self.assertEqual(margin((61, 61, 0, 3, 18), 4)[1], -1)
        self.assertEqual(greatest_jitter(2, (61, 61, 0, 3, 18)), None)


class LongestGapTest(unittest.TestCase):
    def test_none_if_the_bit_times_are_those_of_the_polls(self):
        self.assertIsNone(longest_gap((80, 80, 10, 20, 4)))
        self.assertIsNone(longest_gap((100, 100, 15, 20, 5)))

    def test_0(self):
        self.assertEqual(longest_gap((80, 80, 11, 20, 4)), 0)
        self.assertEqual(longest_gap((59, 80, 0, 20, 4)), 0)
        self.assertEqual(longest_gap((80, 121, 0, 20, 4)), 0)
        # Only longer gaps are read well.
        self.assertEqual(longest_gap((81, 81, 11, 20, 4)), 0)

    def test_others(self):
        self.assertEqual(longest_gap((80, 85, 10, 20, 4)), 4)
        self.assertEqual(longest_gap((79, 80, 0, 20, 4)), 20)
        self.assertEqual(longest_gap((80, 81, 0, 20, 4)), 40)
        self.assertEqual(longest_gap((79, 81, 0, 20, 4)), 20)
        self.assertEqual(longest_gap((90, 90, 0, 20, 4)), 4)
        self.assertEqual(longest_gap((60, 80, 0, 20, 4)), 1)
        self.assertEqual(longest_gap((2000, 2000, 0, 1, 32)), 0)

    def test_against_margins(self):
        random = Random(25)
        for _ in range(200):
            hop = some_hop(random, 2, random.random() < 0.7)
            found = longest_gap(hop)
            bound = 5000 if found is None else found
            self.assertTrue(all(min(told_margins(hop, gap)) >= 0 for gap in range(1, bound + 1)))
            if found is not None:
                self.assertLess(min(told_margins(hop, found + 1)), 0)


class MisreadingTest(unittest.TestCase):
    def test_safe_hop(self):
        self.assertIsNone(misreading(2, (80, 85, 10, 20, 4)))
        random = Random(26)
        for limit in LIMITS:
            self.assertIsNone(misreading(limit, some_hop(random, limit, True)))

    def test_gap_of_1_early(self):
        # The edges are 2000, 2320 + 11, 2400 - 11, 2720; the last poll before 2331 is at 2330.
        self.assertEqual(misreading(2, (80, 80, 11, 20, 4)), (1, 80, (0, 11, -11, 0), 10, []))

    def test_gap_of_1_late(self):
        # The edges are 2000, 2500 - 1, 2625 + 1, 3125.
        self.assertEqual(misreading(2, (100, 125, 1, 20, 4)), (1, 125, (0, -1, 1, 0), 19, []))

    def test_gap_of_the_limit_and_2_early(self):
        # The edges are 2000 + 1, 2296 - 1, ..
        self.assertEqual(misreading(2, (74, 80, 1, 20, 4)), (4, 74, (1, -1, 0, 0), 0, []))

    def test_gap_of_the_limit_and_2_late(self):
        # The edges are 2000 - 10, 2344 + 10, ..
        self.assertEqual(misreading(2, (85, 86, 10, 20, 4)), (4, 86, (-10, 10, 0, 0), 10, []))
        # An early margin of 0 is not negative.
        self.assertEqual(margin((80, 86, 10, 20, 4), 4), (0, -4))
        self.assertEqual(misreading(2, (80, 86, 10, 20, 4)), (4, 86, (-10, 10, 0, 0), 10, []))

    def test_early_is_told_before_late(self):
        self.assertEqual(misreading(2, (59, 125, 0, 20, 4))[:2], (1, 59))
        self.assertEqual(misreading(7, (70, 90, 0, 20, 4))[:2], (9, 70))
        # Gaps of 1 bit are told before longer ones, whatever the side.
        self.assertEqual(misreading(7, (70, 125, 0, 20, 4))[:2], (1, 125))

    def test_is_received_as_it_tells(self):
        random = Random(27)
        seen = set()
        for _ in range(600):
            limit = random.choice(LIMITS)
            hop = some_hop(random, limit, False)
            gap, bit_time, shifts, phase, received = misreading(limit, hop)
            early, late = told_margins(hop, gap)
            self.assertEqual(gap, 1 if min(told_margins(hop, 1)) < 0 else limit + 2)
            self.assertTrue(is_play(hop, (bit_time, shifts, phase)))
            self.assertEqual(len(shifts), 4)
            signal = signal_of(frame_bits(limit, ""), 2000, bit_time, shifts)
            self.assertEqual(receive(limit, hop[3:], phase, signal), received)
            self.assertNotEqual(received, [""])
            self.check_edges(limit, hop, gap, (bit_time, shifts, phase), signal)
            seen.add((gap == 1, early < 0))
        self.assertEqual(len(seen), 4)

    def check_edges(self, limit, hop, gap, play, signal):
        bit_time, shifts, phase = play
        least, greatest, jitter, poll, _ = hop
        first = frame_gaps(limit, "").index(gap)
        early, late = told_margins(hop, gap)
        expected = [0] * 4
        expected[first] = jitter if early < 0 else -jitter
        expected[first + 1] = -expected[first]
        self.assertEqual(shifts, tuple(expected))
        self.assertEqual(bit_time, least if early < 0 else greatest)
        self.assertEqual(phase, (signal[first] + (poll - 1 if early < 0 else 0)) % poll)
        polls = detection_polls(hop[3:], phase, signal[first:first + 2])
        told = gap_bits(hop[3:], polls[1] - polls[0]) if len(polls) == 2 else 0
        if early < 0:
            self.assertLess(told, gap)
        else:
            self.assertGreater(told, gap)


if __name__ == "__main__":
    unittest.main()
