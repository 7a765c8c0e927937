"""Points 14, 15 and 23 to 26: what relays send, their backlogs, the least delay, the buffer depth."""

import unittest
from random import Random

from edgelink.errors import Refused
from edgelink.frames import frame_bits, zeros_of
from edgelink.receivers import detection_polls, gap_bits
from edgelink.relays import backlogs, buffer_depth, least_delay, relay_signal
from edgelink.signals import signal_of
from samples import LIMITS, some_bits, some_hop, some_play, stuffed

SIGNAL = [30, 70, 150, 270]  # At polls 3, 7, 15, 27 of the receiver (10, 4): gaps of 1, 2, 3 bits.


def relayed(receiver, phase, delay, bit_time, shifts, signal):
    """Return what a relay sends, edge by edge as point 23 tells it."""
    sent = []
    polls = detection_polls(receiver, phase, signal)
    behind = 0
    for edge, number in enumerate(polls):
        if edge > 0:
            begins = phase + polls[0] * receiver[0] + delay + (behind + 1) * bit_time
            if phase + number * receiver[0] > begins:
                return None
            behind += gap_bits(receiver, number - polls[edge - 1])
        time = phase + polls[0] * receiver[0] + delay + behind * bit_time
        sent.append(time + (shifts[edge] if edge < len(shifts) else 0))
    if any(time < 0 for time in sent) or any(one >= other for one, other in zip(sent, sent[1:])):
        return None
    return sent


def counted(receiver, phase, delay, bit_time, signal):
    """Return the backlogs, with the bits that have begun counted one by one."""
    found = []
    polls = detection_polls(receiver, phase, signal)
    bits = 1
    for edge, number in enumerate(polls):
        if edge > 0:
            bits += gap_bits(receiver, number - polls[edge - 1])
        now = (number - polls[0]) * receiver[0]
        many = 0
        while delay + many * bit_time <= now:
            many += 1
        found.append(bits - many)
    return found


def numbers_of_25(limit, payload_most, hop, later):
    """Return x and the number that point 25 tells for it, for each x."""
    _, greatest, jitter, poll, _ = hop
    s = payload_most + payload_most // limit
    return [(x, -(-(x * greatest + 2 * jitter) // poll) * poll - (x - limit - 1) * later[0])
            for x in [limit + 2] + list(range(2 * limit + 5, 2 * limit + 5 + s + 1))]


def numbers_of_26(limit, payload_most, hop, later, delay):
    """Return the number that point 26 tells for each x."""
    least, _, jitter, poll, _ = hop
    s = payload_most + payload_most // limit
    found = []
    for x in [0, *range(limit + 2, limit + 4 + s), *range(2 * limit + 5, 2 * limit + 6 + s)]:
        distance = (x * least - 2 * jitter) // poll * poll if x else 0
        found.append(x + 1 - (0 if distance < delay else (distance - delay) // later[1] + 1))
    return found


def payload_to(limit, payload_most, size):
    """Return a payload whose stuffed bits are so many."""
    inserted = max(0, size - payload_most)
    return "1" * (limit * inserted) + "0" * (size - (limit + 1) * inserted)


def aligned_plays(limit, hop, payload, bit_time, late):
    """Return for each edge but the first one its number, and the signal and phase that detect it late, or early."""
    _, _, jitter, poll, _ = hop
    places = zeros_of(frame_bits(limit, payload))
    found = []
    for edge in range(1, len(places)):
        shifts = [0] * len(places)
        shifts[0], shifts[edge] = (-jitter, jitter) if late else (jitter, -jitter)
        signal = signal_of(frame_bits(limit, payload), 2000, bit_time, tuple(shifts))
        phase = signal[0] % poll if late else (signal[0] - 1) % poll
        found.append((edge, signal, phase))
    return found


class RelaySignalTest(unittest.TestCase):
    def test_edges_are_sent_again(self):
        self.assertEqual(relay_signal((10, 4), 0, 100, 50, (), SIGNAL), [130, 180, 280, 430])
        self.assertEqual(relay_signal((10, 4), 3, 100, 40, (), SIGNAL), [133, 173, 253, 373])

    def test_shifts(self):
        self.assertEqual(relay_signal((10, 4), 0, 100, 50, (1, -2), SIGNAL), [131, 178, 280, 430])
        self.assertEqual(relay_signal((10, 4), 0, 100, 50, (0, 0, 5, -5), SIGNAL), [130, 180, 285, 425])
        self.assertEqual(relay_signal((10, 4), 0, 100, 50, (0, 0, 0, 9, 500, -500), SIGNAL), [130, 180, 280, 439])

    def test_shifts_are_those_of_the_edges_that_are_sent(self):
        self.assertEqual(detection_polls((10, 4), 0, [30, 71, 72, 150]), [3, 15])
        self.assertEqual(relay_signal((10, 4), 0, 200, 50, (3, 5, 7), [30, 71, 72, 150]), [233, 385])

    def test_late_and_just_not_late(self):
        # The last edge, 240 behind the first one, has a gap whose first bit is 4 bits behind it.
        self.assertEqual(relay_signal((10, 4), 0, 40, 50, (), SIGNAL), [70, 120, 220, 370])
        self.assertIsNone(relay_signal((10, 4), 0, 39, 50, (), SIGNAL))
        # The edge before the last one is the one that decides.
        self.assertEqual(relay_signal((10, 4), 0, 20, 50, (), SIGNAL[:3]), [50, 100, 200])
        self.assertIsNone(relay_signal((10, 4), 0, 19, 50, (), SIGNAL[:3]))
        # One edge alone is never late.
        self.assertEqual(relay_signal((10, 4), 0, 0, 50, (), SIGNAL[:1]), [30])

    def test_shifts_do_not_make_it_late(self):
        self.assertEqual(relay_signal((10, 4), 0, 40, 50, (0, 0, 0, -20), SIGNAL), [70, 120, 220, 350])
        self.assertIsNone(relay_signal((10, 4), 0, 39, 50, (20, 20, 20, 20), SIGNAL))

    def test_edge_before_time_0(self):
        self.assertEqual(relay_signal((10, 4), 0, 100, 50, (-130,), SIGNAL), [0, 180, 280, 430])
        self.assertIsNone(relay_signal((10, 4), 0, 100, 50, (-131,), SIGNAL))
        self.assertEqual(relay_signal((10, 4), 0, 0, 50, (), [0]), [0])
        self.assertIsNone(relay_signal((10, 4), 0, 0, 50, (-1,), [0]))

    def test_edges_that_are_not_later(self):
        self.assertIsNone(relay_signal((10, 4), 0, 100, 50, (0, -50), SIGNAL))
        self.assertIsNone(relay_signal((10, 4), 0, 100, 50, (0, 0, 0, -151), SIGNAL))
        self.assertEqual(relay_signal((10, 4), 0, 100, 50, (0, -49), SIGNAL), [130, 131, 280, 430])
        # Edges between which 0 bits are read.
        self.assertIsNone(relay_signal((10, 4), 0, 100, 50, (), [30, 50, 80]))
        self.assertEqual(relay_signal((10, 4), 0, 100, 50, (0, 1), [30, 50, 80]), [130, 131, 180])

    def test_nothing_is_detected(self):
        self.assertEqual(relay_signal((10, 4), 0, 100, 50, (), []), [])
        self.assertEqual(relay_signal((10, 4), 0, 100, 50, (-500, 3), [31, 32]), [])

    def test_against_the_words_of_the_document(self):
        random = Random(23)
        seen = {True: 0, False: 0}
        for _ in range(1500):
            poll = random.randint(1, 20)
            receiver, phase = (poll, random.randint(3, 9)), random.randrange(poll)
            signal = sorted(random.sample(range(3000), random.randrange(12)))
            shifts = tuple(random.randint(-60, 60) for _ in range(random.randrange(14)))
            delay, bit_time = random.choice([0, random.randrange(500)]), random.randint(1, 3 * poll * receiver[1])
            expected = relayed(receiver, phase, delay, bit_time, shifts, signal)
            self.assertEqual(relay_signal(receiver, phase, delay, bit_time, shifts, signal), expected)
            seen[expected is None] += 1
        self.assertGreater(min(seen.values()), 200)


class BacklogsTest(unittest.TestCase):
    def test_each_detection(self):
        # Detected 0, 40, 120 and 240 behind the first one: 1, 2, 4 and 7 bits.
        self.assertEqual(backlogs((10, 4), 0, 100, 50, SIGNAL), [1, 2, 4 - 1, 7 - 3])
        self.assertEqual(backlogs((10, 4), 0, 120, 60, SIGNAL), [1, 2, 4 - 1, 7 - 3])
        self.assertEqual(backlogs((10, 4), 0, 121, 60, SIGNAL), [1, 2, 4, 7 - 2])
        self.assertEqual(backlogs((10, 4), 9, 0, 40, SIGNAL), [0, 0, 0, 0])

    def test_of_a_relay_that_is_late(self):
        self.assertIsNone(relay_signal((10, 4), 0, 0, 20, (), SIGNAL))
        self.assertEqual(backlogs((10, 4), 0, 0, 20, SIGNAL), [0, -1, 4 - 7, 7 - 13])

    def test_nothing_is_detected(self):
        self.assertEqual(backlogs((10, 4), 0, 100, 50, []), [])
        self.assertEqual(backlogs((10, 4), 0, 100, 50, [31, 32]), [])
        self.assertEqual(backlogs((10, 4), 0, 100, 50, [31]), [1])
        self.assertEqual(backlogs((10, 4), 0, 0, 50, [31]), [0])

    def test_counted_one_by_one(self):
        random = Random(24)
        below = 0
        for _ in range(600):
            poll = random.randint(1, 20)
            receiver, phase = (poll, random.randint(3, 9)), random.randrange(poll)
            signal = sorted(random.sample(range(3000), random.randrange(12)))
            delay, bit_time = random.choice([0, random.randrange(500)]), random.randint(3, 4 * poll * receiver[1])
            expected = counted(receiver, phase, delay, bit_time, signal)
            self.assertEqual(backlogs(receiver, phase, delay, bit_time, signal), expected)
            below += min(expected, default=0) < 0
        self.assertGreater(below, 20)


class LeastDelayTest(unittest.TestCase):
    def test_some(self):
        hop = (80, 80, 0, 20, 4)
        # The first flag's end alone decides if bits are passed on as fast as they come.
        self.assertEqual(least_delay(2, 2, hop, hop), 240)
        # 12 bits, of which 9 begin before the last gap: 12 * 80 - 9 * 75.
        self.assertEqual(least_delay(2, 2, hop, (75, 100, 0, 20, 4)), 285)
        self.assertEqual(least_delay(2, 3, hop, (75, 100, 0, 20, 4)), 290)
        self.assertEqual(least_delay(2, 2, (80, 84, 3, 20, 4), (80, 80, 0, 20, 4)), 1020 - 720)

    def test_0_is_the_least(self):
        self.assertEqual(least_delay(2, 2, (80, 80, 0, 20, 4), (320, 320, 0, 20, 16)), 0)
        self.assertEqual(least_delay(2, 2, (80, 80, 0, 20, 4), (319, 320, 0, 20, 16)), 1)
        self.assertEqual(least_delay(2, 24, (80, 80, 0, 20, 4), (2000, 2000, 0, 50, 40)), 0)

    def test_hop_that_is_not_safe(self):
        with self.assertRaises(Refused) as context:
            least_delay(2, 2, (80, 86, 10, 20, 4), (80, 80, 0, 20, 4))
        self.assertEqual(context.exception.what, "hop is not safe")
        # The later one need not be safe.
        self.assertEqual(least_delay(2, 2, (80, 80, 0, 20, 4), (80, 160, 0, 20, 4)), 240)

    def test_against_the_words_of_the_document(self):
        random = Random(25)
        for limit in LIMITS:
            for _ in range(60):
                hop, later = some_hop(random, limit, True), some_hop(random, limit, random.random() < 0.5)
                payload_most = random.randint(limit, 24)
                numbers = [number for _, number in numbers_of_25(limit, payload_most, hop, later)]
                self.assertEqual(least_delay(limit, payload_most, hop, later), max([0] + numbers))

    def test_never_late_with_it_but_with_one_less(self):
        random = Random(26)
        late = 0
        for _ in range(150):
            limit = random.choice(LIMITS)
            hop = some_hop(random, limit, True)
            later = random.choice([some_hop(random, limit, True), (1999, 2000, 0, 50, 40)])
            payload_most = random.randint(limit, limit + 4)
            delay = least_delay(limit, payload_most, hop, later)
            sent = []
            for size in range(payload_most + payload_most // limit + 1):
                payload = payload_to(limit, payload_most, size)
                self.assertEqual(len(stuffed(limit, payload)), size)
                self.assertLessEqual(len(payload), payload_most)
                for _, signal, phase in aligned_plays(limit, hop, payload, hop[1], True):
                    self.assertIsNotNone(relay_signal(hop[3:], phase, delay, later[0], (), signal))
                    self.assertIsNotNone(relay_signal(hop[3:], phase, delay, later[1], (), signal))
                    if delay > 0:
                        sent.append(relay_signal(hop[3:], phase, delay - 1, later[0], (), signal))
            self.assertEqual(None in sent, delay > 0)
            late += delay > 0
        self.assertGreater(late, 20)
        self.assertLess(late, 130)

    def test_never_late_in_any_play(self):
        random = Random(27)
        for _ in range(1000):
            limit = random.choice(LIMITS)
            hop, later = some_hop(random, limit, True), some_hop(random, limit, True)
            payload_most = random.randint(limit, 24)
            payload = some_bits(random.random(), random.randint(0, payload_most), ones=random.choice([1, 5]))
            bit_time, shifts, phase = some_play(random, hop, 40)
            signal = signal_of(frame_bits(limit, payload), 2000, bit_time, shifts)
            delay = least_delay(limit, payload_most, hop, later)
            self.assertIsNotNone(relay_signal(hop[3:], phase, delay, later[0], (), signal))


class BufferDepthTest(unittest.TestCase):
    def told(self, what, *arguments):
        with self.assertRaises(Refused) as context:
            buffer_depth(*arguments)
        self.assertEqual(context.exception.what, what)

    def test_some(self):
        hop = (80, 80, 0, 20, 4)
        # 13 bits from the first edge to the last one, of which 12 * 80 - 240 = 9 * 80: 10 have begun.
        self.assertEqual(buffer_depth(2, 2, hop, hop, 240), 3)
        self.assertEqual(buffer_depth(2, 2, hop, hop, 241), 4)
        self.assertEqual(buffer_depth(2, 2, hop, hop, 960), 12)
        self.assertEqual(buffer_depth(2, 2, hop, hop, 961), 13)
        self.assertEqual(buffer_depth(2, 2, hop, hop, 100000), 13)

    def test_slow_later_hop_and_long_gaps(self):
        # Only the first bit has begun when the last edge is detected.
        self.assertEqual(buffer_depth(2, 2, (80, 80, 0, 20, 4), (2000, 2000, 0, 50, 40), 0), 12)
        self.assertEqual(buffer_depth(7, 7, (320, 320, 0, 20, 16), (320, 320, 0, 20, 16), 2560), 8)

    def test_refused(self):
        hop, unsafe = (80, 80, 0, 20, 4), (80, 86, 10, 20, 4)
        self.told("delay is too short", 2, 2, hop, hop, 239)
        self.told("delay is too short", 2, 2, hop, unsafe, 0)
        self.told("hop is not safe", 2, 2, unsafe, hop, 100000)
        self.told("hop is not safe", 2, 2, unsafe, hop, 0)
        self.told("hop is not safe", 2, 2, unsafe, unsafe, 0)

    def test_against_the_words_of_the_document(self):
        random = Random(30)
        for _ in range(300):
            limit = random.choice(LIMITS)
            hop, later = some_hop(random, limit, True), some_hop(random, limit, random.random() < 0.5)
            payload_most = random.randint(limit, 24)
            delay = least_delay(limit, payload_most, hop, later) + random.choice([0, 1, random.randrange(3000)])
            self.assertEqual(buffer_depth(limit, payload_most, hop, later, delay),
                             max(numbers_of_26(limit, payload_most, hop, later, delay)))

    def test_is_the_greatest_backlog_of_plays(self):
        random = Random(28)
        for _ in range(150):
            limit = random.choice(LIMITS)
            hop, later = some_hop(random, limit, True), some_hop(random, limit, True)
            payload_most = random.randint(limit, limit + 4)
            delay = least_delay(limit, payload_most, hop, later) + random.choice([0, 1, random.randrange(3000)])
            found = [0 if delay == 0 else 1]
            for size in range(payload_most + payload_most // limit + 1):
                payload = payload_to(limit, payload_most, size)
                for _, signal, phase in aligned_plays(limit, hop, payload, hop[0], False):
                    found += backlogs(hop[3:], phase, delay, later[1], signal)
            self.assertEqual(buffer_depth(limit, payload_most, hop, later, delay), max(found))

    def test_no_play_has_more(self):
        random = Random(29)
        for _ in range(1000):
            limit = random.choice(LIMITS)
            hop, later = some_hop(random, limit, True), some_hop(random, limit, True)
            payload_most = random.randint(limit, 24)
            payload = some_bits(random.random(), random.randint(0, payload_most), ones=random.choice([1, 5]))
            bit_time, shifts, phase = some_play(random, hop, 40)
            signal = signal_of(frame_bits(limit, payload), 2000, bit_time, shifts)
            delay = least_delay(limit, payload_most, hop, later) + random.choice([0, random.randrange(3000)])
            depth = buffer_depth(limit, payload_most, hop, later, delay)
            found = backlogs(hop[3:], phase, delay, random.choice(later[:2]), signal)
            self.assertLessEqual(max(found), depth)
            self.assertGreaterEqual(min(found), 0)


if __name__ == "__main__":
    unittest.main()
