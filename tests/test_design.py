"""Points 21, 22, 25, 27 and 30: weakest margins, receivers, limits, delays together, times of arrival."""

import unittest
from random import Random

from edgelink.chains import least_delays, transmit
from edgelink.design import (
    arrival, greatest_limit, receivers_for, slowest_receiver, spread, total_delay, weakest,
)
from edgelink.errors import Refused
from edgelink.frames import frame_bits
from edgelink.receivers import detection_polls
from samples import LIMITS, some_bits, some_hop, some_play, told_margins, told_safe

HOP = (80, 80, 0, 20, 4)
FAST = (75, 80, 0, 20, 4)
UNSAFE = (80, 86, 10, 20, 4)


class WeakestTest(unittest.TestCase):
    def test_some(self):
        self.assertEqual(weakest(2, (80, 84, 3, 20, 4)), (14, 1, "early"))
        self.assertEqual(weakest(2, (80, 84, 0, 20, 4)), (20, 1, "early"))
        self.assertEqual(weakest(7, (80, 84, 0, 20, 4)), (4, 9, "late"))
        self.assertEqual(weakest(2, (74, 80, 1, 20, 4)), (-6, 4, "early"))
        self.assertEqual(weakest(2, UNSAFE), (-4, 4, "late"))

    def test_equal_ones(self):
        # All early margins are the same: that of the least gap.
        self.assertEqual(weakest(2, (80, 80, 10, 20, 4)), (0, 1, "early"))
        # Early and late are the same for all gaps.
        self.assertEqual(weakest(2, (100, 100, 2, 20, 5)), (36, 1, "early"))
        # Early and late are the same for the longest gap only.
        self.assertEqual(told_margins((99, 101, 2, 20, 5), 4), (32, 32))
        self.assertEqual(weakest(2, (99, 101, 2, 20, 5)), (32, 4, "early"))
        # Late for 4 bits is the same as early for 1 bit.
        self.assertEqual(told_margins((80, 85, 10, 20, 4), 4), (0, 0))
        self.assertEqual(weakest(2, (80, 85, 10, 20, 4)), (0, 1, "early"))
        # Early for 1 bit is less than late for 1 bit, but the same as late for 4 bits.
        self.assertEqual([told_margins((84, 85, 10, 20, 4), gap) for gap in (1, 4)], [(4, 15), (16, 0)])

    def test_against_all_margins(self):
        random = Random(21)
        sides = {}
        for _ in range(500):
            limit = random.choice(LIMITS)
            hop = some_hop(random, limit, random.random() < 0.5)
            told = [(told_margins(hop, gap)[side], gap, ("early", "late")[side])
                    for gap in range(1, limit + 3) for side in (0, 1)]
            least = min(bound for bound, _, _ in told)
            expected = [place for place in told if place[0] == least][0]
            self.assertEqual(weakest(limit, hop), expected)
            self.assertEqual(weakest(limit, hop)[0] >= 0, told_safe(limit, hop))
            sides[expected[1] == 1, expected[2]] = True
        self.assertIn((False, "early"), sides)
        self.assertIn((False, "late"), sides)
        self.assertIn((True, "early"), sides)


class ReceiversTest(unittest.TestCase):
    def test_against_trying_every_receiver(self):
        random = Random(22)
        for _ in range(25):
            limit = random.choice(LIMITS)
            least, greatest, jitter, _, _ = some_hop(random, limit, random.random() < 0.8)
            expected = [(poll, polls_per_bit) for poll in range(1, 51) for polls_per_bit in range(3, 33)
                        if told_safe(limit, (least, greatest, jitter, poll, polls_per_bit))]
            self.assertEqual(receivers_for(limit, least, greatest, jitter), expected)
            self.assert_slowest(expected, slowest_receiver(limit, least, greatest, jitter))

    def assert_slowest(self, receivers, found):
        if receivers:
            self.assertIn(found, receivers)
            for poll, polls_per_bit in receivers:
                self.assertTrue(poll < found[0] or poll == found[0] and polls_per_bit >= found[1])
        else:
            self.assertIsNone(found)

    def test_none(self):
        self.assertEqual(receivers_for(2, 80, 90, 15), [])
        self.assertIsNone(slowest_receiver(2, 80, 90, 15))
        self.assertEqual(receivers_for(2, 50, 2000, 0), [])

    def test_few(self):
        self.assertEqual(receivers_for(2, 80, 80, 15), [
            (3, 26), (3, 27), (4, 20), (5, 16), (8, 10), (9, 9), (10, 8), (16, 5),
        ])
        self.assertEqual(slowest_receiver(2, 80, 80, 15), (16, 5))

    def test_several_of_the_greatest_poll(self):
        receivers = receivers_for(2, 1500, 1500, 0)
        self.assertEqual([receiver for receiver in receivers if receiver[0] == 50], [(50, n) for n in range(27, 33)])
        self.assertEqual(slowest_receiver(2, 1500, 1500, 0), (50, 27))

    def test_ends_of_the_bounds_of_receivers(self):
        self.assertEqual(receivers_for(2, 50, 50, 0)[0], (2, 23))
        self.assertIn((1, 32), receivers_for(2, 30, 30, 0))
        self.assertIn((50, 32), receivers_for(2, 1600, 1600, 0))
        self.assertIn((50, 3), receivers_for(2, 150, 150, 0))
        self.assertEqual(receivers_for(2, 3, 3, 0)[0], (1, 3))


class GreatestLimitTest(unittest.TestCase):
    def test_some(self):
        self.assertEqual(greatest_limit(HOP), 7)
        self.assertEqual(greatest_limit((80, 85, 10, 20, 4)), 2)
        self.assertEqual(greatest_limit((80, 84, 10, 20, 4)), 3)
        self.assertEqual(greatest_limit((80, 83, 8, 20, 4)), 6)
        self.assertIsNone(greatest_limit(UNSAFE))
        self.assertIsNone(greatest_limit((80, 80, 11, 20, 4)))

    def test_against_each_limit(self):
        random = Random(23)
        found = set()
        for _ in range(400):
            hop = some_hop(random, random.choice(LIMITS), random.random() < 0.7)
            safe = [limit for limit in LIMITS if told_safe(limit, hop)]
            self.assertEqual(greatest_limit(hop), safe[-1] if safe else None)
            found.add(greatest_limit(hop))
        self.assertEqual(found, {None, 2, 3, 4, 5, 6, 7})


class TotalDelayTest(unittest.TestCase):
    def test_sum_of_least_delays(self):
        self.assertEqual(total_delay(2, 2, (HOP, FAST, HOP, FAST)), 285 + 240 + 285)
        random = Random(24)
        for many in range(1, 5):
            for _ in range(20):
                limit = random.choice(LIMITS)
                hops = tuple(some_hop(random, limit, True) for _ in range(many))
                self.assertEqual(total_delay(limit, 24, hops), sum(least_delays(limit, 24, hops)))

    def test_one_hop(self):
        self.assertEqual(total_delay(2, 2, (HOP,)), 0)

    def test_hop_that_is_not_safe(self):
        for hops in [(UNSAFE,), (UNSAFE, UNSAFE), (HOP, UNSAFE), (HOP, HOP, UNSAFE, HOP), (HOP, HOP, HOP, UNSAFE)]:
            with self.assertRaises(Refused) as context:
                total_delay(2, 2, hops)
            self.assertEqual(context.exception.what, f"hop {hops.index(UNSAFE)} is not safe")


def chain_without_fault(random, many):
    """Return a chain without fault."""
    limit = random.choice(LIMITS)
    payload_most = random.randint(limit, 24)
    hops = tuple(some_hop(random, limit, True) for _ in range(many))
    more = random.choice([0, 1, 700])
    return limit, payload_most, hops, tuple(delay + more for delay in least_delays(limit, payload_most, hops))


def last_detection(chain, payload, plays):
    """Return the time at which the last receiver detects the last edge in a transmission."""
    signals, fault, _ = transmit(chain, payload, plays)
    assert fault is None
    poll, polls_per_bit = chain[2][-1][3:]
    phase = plays[-1][2]
    return phase + poll * detection_polls((poll, polls_per_bit), phase, signals[-1])[-1]


def outermost_plays(chain, payload, late):
    """Return plays with all edges shifted to one side, and phases that detect what is passed on at once, or late."""
    limit, _, hops, _ = chain
    many = frame_bits(limit, payload).count("0")
    plays = []
    for least, greatest, jitter, _, _ in hops:
        plays.append((greatest if late else least, ((jitter if late else -jitter),) * many, 0))
    for number, hop in enumerate(hops):
        signals, _, _ = transmit(chain, payload, plays)
        # A relay passes on the first edge, the last receiver is asked for the last one.
        edge = signals[number][-1 if number + 1 == len(hops) else 0]
        phase = (edge - 1 if late else edge) % hop[3]
        plays[number] = plays[number][:2] + (phase,)
    return plays


class ArrivalTest(unittest.TestCase):
    def test_one_hop(self):
        # Nine bits lie between the edges of the frame without payload bits.
        self.assertEqual(arrival((2, 2, (HOP,), ()), ""), (2720, 2739))
        self.assertEqual(arrival((2, 2, ((80, 85, 10, 20, 4),), ()), ""), (2710, 2794))
        self.assertEqual(arrival((2, 2, ((80, 85, 10, 20, 4),), ()), "11"), (2000 - 10 + 12 * 80, 2029 + 12 * 85))

    def test_chain(self):
        chain = (2, 2, ((80, 85, 10, 20, 4), (160, 161, 5, 10, 16)), (1000,))
        self.assertEqual(arrival(chain, ""), (3000 - 15 + 9 * 160, 3000 + 15 + 19 + 9 + 9 * 161))
        self.assertEqual(spread(chain, ""), 2 * 15 + 19 + 9 + 9)

    def test_spread_is_the_difference(self):
        self.assertEqual(spread((2, 2, (HOP,), ()), ""), 19)
        random = Random(30)
        for many in range(1, 5):
            chain = chain_without_fault(random, many)
            for payload in ("", "0", "11", "01"):
                least, greatest = arrival(chain, payload)
                self.assertEqual(spread(chain, payload), greatest - least)

    def test_outermost_plays(self):
        random = Random(31)
        for many in range(1, 5):
            for _ in range(40):
                chain = chain_without_fault(random, many)
                payload = some_bits(random.random(), random.randint(0, chain[1]), ones=random.choice([1, 5]))
                least = last_detection(chain, payload, outermost_plays(chain, payload, False))
                greatest = last_detection(chain, payload, outermost_plays(chain, payload, True))
                self.assertEqual(arrival(chain, payload), (least, greatest))

    def test_no_play_arrives_outside(self):
        random = Random(32)
        for many in range(1, 5):
            for _ in range(80):
                chain = chain_without_fault(random, many)
                payload = some_bits(random.random(), random.randint(0, chain[1]), ones=random.choice([1, 5]))
                plays = [some_play(random, hop, 40) for hop in chain[2]]
                least, greatest = arrival(chain, payload)
                self.assertIn(last_detection(chain, payload, plays), range(least, greatest + 1))

    def test_chain_with_a_fault_is_refused(self):
        for chain in [(2, 2, (UNSAFE,), ()), (2, 2, (HOP, HOP), (239,)), (2, 2, (HOP, UNSAFE), (1000,)),
                      (2, 2, (UNSAFE, HOP), (1000,)), (2, 3, (HOP, FAST), (285,))]:
            for function in (arrival, spread):
                with self.assertRaises(Refused) as context:
                    function(chain, "")
                self.assertEqual(context.exception.what, "chain has a fault")


if __name__ == "__main__":
    unittest.main()
