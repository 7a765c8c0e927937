"""Points 2 and 27 to 29: chains, their faults, transmissions and failures."""

import unittest
from random import Random

from edgelink.chains import chain_fault, failure, least_delays, transmit
from edgelink.errors import Refused
from edgelink.frames import frame_bits, frame_gaps, zeros_of
from edgelink.receivers import receive, received_gaps
from edgelink.relays import least_delay, relay_signal
from edgelink.signals import signal_of
from edgelink.tolerance import misreading
from samples import LIMITS, is_play, some_bits, some_hop, some_play, told_margins, told_safe

HOP = (80, 80, 0, 20, 4)
FAST = (75, 80, 0, 20, 4)
UNSAFE = (80, 86, 10, 20, 4)


def safe_chain(random, many):
    """Return a chain without fault, often with the least delays."""
    limit = random.choice(LIMITS)
    payload_most = random.randint(limit, 24)
    hops = tuple(some_hop(random, limit, True) for _ in range(many))
    more = random.choice([0, 1, 700])
    delays = tuple(delay + more for delay in least_delays(limit, payload_most, hops))
    return limit, payload_most, hops, delays


def with_fault(random, chain, fault):
    """Return the chain with this fault, and perhaps others behind it; None if its relay needs no delay."""
    limit, payload_most, hops, delays = chain
    kind, number = fault
    hops, delays = list(hops), list(delays)
    if kind == "hop":
        hops[number] = some_hop(random, limit, False)
        delays = [100000 if place == number - 1 else delay for place, delay in enumerate(delays)]
    else:
        needed = least_delay(limit, payload_most, hops[number], hops[number + 1])
        if needed == 0:
            return None
        delays[number] = random.choice([needed - 1, random.randrange(needed)])
    for later in range(number + 1, len(hops)):
        if random.random() < 0.3:
            hops[later] = some_hop(random, limit, False)
    return limit, payload_most, tuple(hops), tuple(delays)


def some_faults(seed, rounds):
    """Return a generator and chains with a fault, each with it: every fault of chains of 1 to 4 hops."""
    random = Random(seed)
    found = []
    for _ in range(rounds):
        for many in range(1, 5):
            faults = [("hop", number) for number in range(many)] + [("relay", number) for number in range(many - 1)]
            for fault in faults:
                chain = with_fault(random, safe_chain(random, many), fault)
                if chain is not None and first_fault(chain) == fault:
                    found.append((chain, fault))
    return random, found


def first_fault(chain):
    """Return the first fault of a chain, in the order that point 27 tells."""
    limit, payload_most, hops, delays = chain
    faults = []
    for number, hop in enumerate(hops):
        if not told_safe(limit, hop):
            faults.append(("hop", number))
        elif number + 1 < len(hops) and delays[number] < least_delay(limit, payload_most, hop, hops[number + 1]):
            faults.append(("relay", number))
    return faults[0] if faults else None


def told_transmission(chain, payload, plays):
    """Return the transmission, step by step as point 28 tells it."""
    limit, _, hops, delays = chain
    signals = [signal_of(frame_bits(limit, payload), 2000, plays[0][0], plays[0][1])]
    faults = []
    for number, hop in enumerate(hops):
        if received_gaps(hop[3:], plays[number][2], signals[-1]) != frame_gaps(limit, payload):
            faults.append(("hop", number))
        if number + 1 == len(hops):
            received = receive(limit, hop[3:], plays[number][2], signals[-1])
            break
        bit_time, shifts, _ = plays[number + 1]
        sent = relay_signal(hop[3:], plays[number][2], delays[number], bit_time, shifts, signals[-1])
        if sent is None:
            faults.append(("relay", number))
            received = None
            break
        signals.append(sent)
    return signals, faults[0] if faults else None, received


class LeastDelaysTest(unittest.TestCase):
    def told(self, what, *arguments):
        with self.assertRaises(Refused) as context:
            least_delays(*arguments)
        self.assertEqual(context.exception.what, what)

    def test_of_each_relay(self):
        self.assertEqual(least_delays(2, 2, (HOP, HOP)), [240])
        self.assertEqual(least_delays(2, 2, (HOP, FAST, HOP, FAST)), [285, 240, 285])
        random = Random(27)
        for many in range(1, 5):
            for _ in range(30):
                limit = random.choice(LIMITS)
                hops = tuple(some_hop(random, limit, True) for _ in range(many))
                self.assertEqual(least_delays(limit, 20, hops), [
                    least_delay(limit, 20, hop, later) for hop, later in zip(hops, hops[1:])
                ])

    def test_one_hop(self):
        self.assertEqual(least_delays(2, 2, (HOP,)), [])

    def test_hops_that_are_not_safe(self):
        self.told("hop 0 is not safe", 2, 2, (UNSAFE,))
        for many in range(1, 5):
            for number in range(many):
                hops = [HOP] * many
                hops[number] = UNSAFE
                self.told(f"hop {number} is not safe", 2, 2, tuple(hops))
                self.told(f"hop {number} is not safe", 2, 2, tuple(hops[:number + 1]) + (UNSAFE, HOP)[:4 - number])


class ChainFaultTest(unittest.TestCase):
    def test_none(self):
        self.assertIsNone(chain_fault((2, 2, (HOP,), ())))
        self.assertIsNone(chain_fault((2, 2, (HOP, FAST, HOP, FAST), (285, 240, 285))))
        self.assertIsNone(chain_fault((2, 2, (HOP, FAST), (100000,))))

    def test_a_hop(self):
        for many in range(1, 5):
            for number in range(many):
                hops = [HOP] * many
                hops[number] = UNSAFE
                self.assertEqual(chain_fault((2, 2, tuple(hops), (100000,) * (many - 1))), ("hop", number))

    def test_a_relay(self):
        for many in range(2, 5):
            for number in range(many - 1):
                delays = [240] * (many - 1)
                delays[number] = 239
                self.assertEqual(chain_fault((2, 2, (HOP,) * many, tuple(delays))), ("relay", number))

    def test_the_first_one_in_their_order(self):
        self.assertEqual(chain_fault((2, 2, (UNSAFE, UNSAFE), (0,))), ("hop", 0))
        self.assertEqual(chain_fault((2, 2, (HOP, UNSAFE), (0,))), ("relay", 0))
        self.assertEqual(chain_fault((2, 2, (HOP, UNSAFE), (240,))), ("hop", 1))
        self.assertEqual(chain_fault((2, 2, (HOP, HOP, UNSAFE, UNSAFE), (240, 0, 0))), ("relay", 1))
        self.assertEqual(chain_fault((2, 2, (HOP, UNSAFE, HOP), (240, 0))), ("hop", 1))

    def test_the_limit_and_the_payloads_matter(self):
        self.assertIsNone(chain_fault((2, 2, (HOP, FAST), (285,))))
        self.assertEqual(chain_fault((2, 3, (HOP, FAST), (285,))), ("relay", 0))
        self.assertIsNone(chain_fault((2, 3, ((80, 85, 10, 20, 4),), ())))
        self.assertEqual(chain_fault((3, 3, ((80, 85, 10, 20, 4),), ())), ("hop", 0))

    def test_against_the_words_of_the_document(self):
        _, chains = some_faults(28, 8)
        self.assertEqual({fault for _, fault in chains}, {("hop", 0), ("hop", 1), ("hop", 2), ("hop", 3),
                                                         ("relay", 0), ("relay", 1), ("relay", 2)})
        for chain, fault in chains:
            self.assertEqual(chain_fault(chain), fault)


class TransmitTest(unittest.TestCase):
    def test_without_fault(self):
        chain = (2, 2, (HOP, FAST), (300,))
        # The first edge is sent at 2000, detected at 2010, and sent again at 2310.
        self.assertEqual(transmit(chain, "", [(80, (), 10), (75, (0, 3), 0)]),
                         ([[2000, 2320, 2400, 2720], [2310, 2613, 2685, 2985]], None, [""]))
        self.assertEqual(transmit((2, 2, (HOP,), ()), "11", [(80, (), 0)]),
                         ([[2000, 2320, 2560, 2640, 2960]], None, ["11"]))

    def test_fault_of_a_hop(self):
        # The hop reads its first gap as 5 bits; what it reads is passed on and received.
        chain = (2, 2, (UNSAFE, HOP), (1000,))
        signals, fault, received = transmit(chain, "", [(86, (-10, 10), 10), (80, (), 0)])
        self.assertEqual(signals, [[1990, 2354, 2430, 2774], [2990, 3390, 3470, 3790]])
        self.assertEqual((fault, received), (("hop", 0), []))
        self.assertEqual(transmit(chain, "", [(80, (), 0), (80, (), 0)])[1:], (None, [""]))

    def test_fault_of_the_last_hop(self):
        chain = (2, 2, (HOP, UNSAFE), (1000,))
        signals, fault, received = transmit(chain, "", [(80, (), 0), (86, (-10, 10), 10)])
        self.assertEqual((len(signals), fault, received), (2, ("hop", 1), []))

    def test_fault_of_a_relay(self):
        plays = [(80, (), 0)] * 3
        self.assertEqual(transmit((2, 2, (HOP, HOP, HOP), (239, 240)), "", plays),
                         ([[2000, 2320, 2400, 2720]], ("relay", 0), None))
        signals, fault, received = transmit((2, 2, (HOP, HOP, HOP), (240, 239)), "", plays)
        self.assertEqual((signals[0], len(signals), fault, received), ([2000, 2320, 2400, 2720], 2, ("relay", 1), None))
        self.assertEqual(transmit((2, 2, (HOP, HOP, HOP), (240, 240)), "", plays)[1:], (None, [""]))

    def test_first_fault_along_the_chain(self):
        # Hop 0 misreads, and relay 1 is late behind it.
        chain = (2, 2, (UNSAFE, HOP, HOP), (1000, 100))
        signals, fault, received = transmit(chain, "", [(86, (-10, 10), 10), (80, (), 0), (80, (), 0)])
        self.assertEqual((len(signals), fault, received), (2, ("hop", 0), None))

    def test_relay_whose_edges_would_be_out_of_order(self):
        # The second hop has a bit time of 10 and shifts that put its edges out of order.
        chain = (2, 2, (HOP, (10, 10, 40, 20, 4)), (1000,))
        signals, fault, received = transmit(chain, "", [(80, (), 0), (10, (40,), 0)])
        self.assertEqual((len(signals), fault, received), (1, ("relay", 0), None))

    def test_relay_that_detects_nothing(self):
        # Polls that are too far apart: both edges of each pair come between two of them.
        chain = (2, 2, ((50, 50, 0, 2000, 3), HOP, HOP), (0, 0))
        self.assertEqual(transmit(chain, "", [(50, (), 1999), (80, (), 0), (80, (), 0)]),
                         ([[2000, 2200, 2250, 2450], [], []], ("hop", 0), []))

    def test_against_the_words_of_the_document(self):
        random, chains = some_faults(29, 12)
        seen = {}
        for chain, _ in chains:
            plays = [some_play(random, hop, 20) for hop in chain[2]]
            payload = some_bits(random.random(), random.randint(0, chain[1]), ones=random.choice([1, 5]))
            expected = told_transmission(chain, payload, plays)
            self.assertEqual(transmit(chain, payload, plays), expected)
            seen[expected[1] and expected[1][0], expected[2] is None] = True
        self.assertEqual(set(seen), {("hop", False), ("hop", True), ("relay", True), (None, False)})

    def test_chain_without_fault_has_no_transmission_with_one(self):
        random = Random(30)
        for many in range(1, 5):
            for _ in range(80):
                chain = safe_chain(random, many)
                self.assertIsNone(chain_fault(chain))
                plays = [some_play(random, hop, 40) for hop in chain[2]]
                payload = some_bits(random.random(), random.randint(0, chain[1]), ones=random.choice([1, 5]))
                signals, fault, received = transmit(chain, payload, plays)
                self.assertEqual((len(signals), fault, received), (many, None, [payload]))


class FailureTest(unittest.TestCase):
    def test_none(self):
        random = Random(31)
        self.assertIsNone(failure((2, 2, (HOP,), ())))
        for many in range(1, 5):
            for _ in range(20):
                self.assertIsNone(failure(safe_chain(random, many)))

    def test_of_the_only_hop(self):
        payload, plays, transmission = failure((2, 2, (UNSAFE,), ()))
        self.assertEqual((payload, plays), ("", [(86, (-10, 10, 0, 0), 10)]))
        self.assertEqual(transmission, ([[1990, 2354, 2430, 2774]], ("hop", 0), []))

    def test_of_a_later_hop(self):
        # Relay 0 detects the first edge at 2000, and sends it at 2245 - 10: the phase is that of 2235.
        payload, plays, transmission = failure((2, 2, (HOP, UNSAFE, HOP), (245, 900)))
        self.assertEqual((payload, plays), ("", [(80, (), 0), (86, (-10, 10, 0, 0), 15), (80, (), 0)]))
        self.assertEqual(transmission[1:], (("hop", 1), []))
        self.assertEqual(transmission[0][1], [2235, 2599, 2675, 3019])

    def test_of_a_hop_that_is_read_early(self):
        # Edge 1 is at 2245 + 4 * 80 + 11 = 2576; the phase is that of the time before it.
        payload, plays, transmission = failure((2, 2, (HOP, (80, 80, 11, 20, 4)), (245,)))
        self.assertEqual((payload, plays), ("", [(80, (), 0), (80, (0, 11, -11, 0), 15)]))
        self.assertEqual(transmission, ([[2000, 2320, 2400, 2720], [2245, 2576, 2634, 2965]], ("hop", 1), []))

    def test_of_a_relay_at_the_first_flag(self):
        payload, plays, transmission = failure((2, 2, ((80, 84, 3, 20, 4), HOP), (0,)))
        self.assertEqual((payload, plays), ("", [(84, (-3, 3, 0, 0), 17), (80, (), 0)]))
        self.assertEqual(transmission, ([[1997, 2339, 2420, 2756]], ("relay", 0), None))

    def test_of_a_relay_at_the_last_flag(self):
        # Numbers of point 25 are 245 for 4 bits, then 9 * 80 - 6 * 75 = 270, 275, 280, 285.
        for delay, payload in [(244, ""), (245, ""), (269, ""), (270, "0"), (274, "0"), (275, "00"), (279, "00"),
                               (280, "11"), (284, "11")]:
            found = failure((2, 2, (HOP, FAST), (delay,)))
            self.assertEqual(found[0], payload)
            self.assertEqual(found[2][1], ("relay", 0))
        self.assertIsNone(failure((2, 2, (HOP, FAST), (285,))))

    def test_payload_with_zeros_behind_its_ones(self):
        # With 9 bits at most, and 3 inserted zeros: 6 ones and 3 zeros.
        chain = (2, 9, (HOP, FAST), (least_delay(2, 9, HOP, FAST) - 6,))
        self.assertEqual(failure(chain)[0], "111111000")

    def test_shows_just_the_fault(self):
        _, chains = some_faults(32, 25)
        self.assertEqual(len({fault for _, fault in chains}), 7)
        payloads = set()
        for chain, fault in chains:
            limit, payload_most, hops, delays = chain
            payload, plays, transmission = failure(chain)
            self.assertEqual(transmission, told_transmission(chain, payload, plays))
            self.assertEqual(transmission[1], fault)
            self.assertIsInstance(plays, list)
            self.assertLessEqual(len(payload), payload_most)
            for number, (hop, play) in enumerate(zip(hops, plays, strict=True)):
                self.assertTrue(is_play(hop, play))
                if number != fault[1]:
                    self.assertEqual(play, (hop[0], (), 0))
            if fault[0] == "hop":
                self.check_hop(chain, fault[1], payload, plays, transmission[0])
            else:
                self.check_relay(chain, fault[1], payload, plays, transmission[0])
                payloads.add((payload[:1], "0" in payload and "1" in payload))
        self.assertEqual(payloads, {("", False), ("0", False), ("1", False), ("1", True)})

    def check_hop(self, chain, number, payload, plays, signals):
        limit, _, hops, _ = chain
        gap, bit_time, shifts, _, _ = misreading(limit, hops[number])
        self.assertEqual((payload, plays[number][:2]), ("", (bit_time, shifts)))
        time = signals[number][frame_gaps(limit, "").index(gap)]
        poll = hops[number][3]
        before = poll - 1 if told_margins(hops[number], gap)[0] < 0 else 0
        self.assertEqual(plays[number][2], (time + before) % poll)

    def check_relay(self, chain, number, payload, plays, signals):
        limit, payload_most, hops, delays = chain
        _, greatest, jitter, poll, _ = hops[number]
        s = payload_most + payload_most // limit
        for x in [limit + 2] + list(range(2 * limit + 5, 2 * limit + 6 + s)):
            needed = -(-(x * greatest + 2 * jitter) // poll) * poll - (x - limit - 1) * hops[number + 1][0]
            if needed > delays[number]:
                break
        places = zeros_of(frame_bits(limit, payload))
        shifts = tuple({0: -jitter, x: jitter}.get(place, 0) for place in places)
        self.assertEqual(plays[number], (greatest, shifts, signals[number][0] % poll))
        if x == limit + 2:
            self.assertEqual(payload, "")
        else:
            self.assertEqual(places[-1], x)
            t = x - 2 * limit - 5
            u = max(0, t - payload_most)
            self.assertEqual(payload, "1" * limit * u + "0" * (t - (limit + 1) * u))


if __name__ == "__main__":
    unittest.main()
