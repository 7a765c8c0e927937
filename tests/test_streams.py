"""Points 35 and 36: streams of frames, the least idle, the latest start."""

import unittest
from random import Random

from edgelink.errors import Refused
from edgelink.frames import frame_bits, gaps_of, zeros_of
from edgelink.receivers import detection_polls, gap_bits, receive
from edgelink.signals import signal_of
from edgelink.streams import (
    frame_of_edge, frame_places, latest_start, least_idle, runs_into, stream_bits, stream_signal, untouched,
)
from samples import LIMITS, some_bits, some_hop, some_play

HOP = (80, 80, 0, 20, 4)


def some_stream(random, limit, least=0):
    """Return the payloads and idles of a stream, with idles not less than told."""
    payloads = [some_bits(random.random(), random.randrange(9), ones=random.choice([1, 5]))
                for _ in range(random.randint(1, 5))]
    return payloads, tuple(random.choice([least, 20, random.randint(least, 20)]) for _ in payloads[1:])


def told_bits(limit, payloads, idles):
    """Return the bits of a stream, and the place at which each frame begins."""
    bits = ""
    places = []
    for number, payload in enumerate(payloads):
        if number > 0:
            bits += "1" * idles[number - 1]
        places.append(len(bits))
        bits += frame_bits(limit, payload)
    return bits, places


def told_idle(limit, hop):
    """Return the least idle, by trying all numbers from 0 on."""
    least, _, jitter, poll, polls_per_bit = hop
    idle = 0
    while (idle + 1) * least - 2 * jitter < ((2 * limit + 1) * polls_per_bit // 2 + 1) * poll:
        idle += 1
    return idle


class StreamBitsTest(unittest.TestCase):
    def test_some(self):
        self.assertEqual(stream_bits(2, [""], ()), "0111001110")
        self.assertEqual(stream_bits(2, ["0", "11"], (0,)), "01110001110" + "0111011001110")
        self.assertEqual(stream_bits(2, ["", ""], (3,)), "0111001110" + "111" + "0111001110")

    def test_of_1_to_5_payloads(self):
        random = Random(35)
        sizes = set()
        for _ in range(200):
            limit = random.choice(LIMITS)
            payloads, idles = some_stream(random, limit)
            bits, places = told_bits(limit, payloads, idles)
            self.assertEqual(stream_bits(limit, payloads, idles), bits)
            self.assertEqual(frame_places(limit, payloads, idles), places)
            sizes.add(len(payloads))
        self.assertEqual(sizes, {1, 2, 3, 4, 5})


class FramePlacesTest(unittest.TestCase):
    def test_some(self):
        self.assertEqual(frame_places(2, [""], ()), [0])
        self.assertEqual(frame_places(2, ["", ""], (0,)), [0, 10])
        self.assertEqual(frame_places(2, ["", "11", "0"], (20, 3)), [0, 30, 46])
        self.assertEqual(frame_places(7, ["", "", "", "", ""], (0, 1, 0, 2)), [0, 20, 41, 61, 83])


class StreamSignalTest(unittest.TestCase):
    def test_some(self):
        self.assertEqual(stream_signal(2, ["", ""], (1,), 100, 10, (1, -1)),
                         [101, 139, 150, 190, 210, 250, 260, 300])
        self.assertEqual(stream_signal(2, [""], (), 5, 10, (-5,)), [0, 45, 55, 95])

    def test_is_the_signal_of_the_bits(self):
        random = Random(36)
        for _ in range(60):
            limit = random.choice(LIMITS)
            payloads, idles = some_stream(random, limit)
            shifts = tuple(random.randint(-4, 4) for _ in range(random.randrange(90)))
            expected = signal_of(told_bits(limit, payloads, idles)[0], 30, 9, shifts)
            self.assertEqual(stream_signal(limit, payloads, idles, 30, 9, shifts), expected)

    def test_edges_out_of_order(self):
        for start, shifts in [(5, (-6,)), (100, (0, 0, -10)), (100, (0, 10)), (100, (0, 0, 0, 10)),
                              (100, (0, 0, 0, 0, -10))]:
            with self.assertRaises(Refused) as context:
                stream_signal(2, ["", ""], (0,), start, 10, shifts)
            self.assertEqual(context.exception.what, "edges out of order")
        self.assertEqual(len(stream_signal(2, ["", ""], (0,), 100, 10, (0, 0, 0, 0, -9))), 8)


class LeastIdleTest(unittest.TestCase):
    def test_is_the_limit_for_a_safe_hop(self):
        random = Random(37)
        for limit in LIMITS:
            self.assertEqual(least_idle(limit, HOP), limit)
            for _ in range(60):
                self.assertEqual(least_idle(limit, some_hop(random, limit, True)), limit)

    def test_of_other_hops(self):
        # 11 polls, of 20, are read as 3 bits.
        self.assertEqual(least_idle(2, (220, 220, 0, 20, 4)), 0)
        self.assertEqual(least_idle(2, (219, 219, 0, 20, 4)), 1)
        self.assertEqual(least_idle(2, (230, 230, 5, 20, 4)), 0)
        self.assertEqual(least_idle(2, (229, 229, 5, 20, 4)), 1)
        self.assertEqual(least_idle(2, (2000, 2000, 0, 20, 4)), 0)
        self.assertEqual(least_idle(2, (73, 80, 0, 20, 4)), 3)
        self.assertEqual(least_idle(2, (50, 50, 0, 20, 4)), 4)
        self.assertEqual(least_idle(2, (50, 50, 15, 20, 4)), 4)
        self.assertEqual(least_idle(2, (50, 50, 16, 20, 4)), 5)
        self.assertEqual(least_idle(7, (50, 50, 0, 50, 32)), 240)

    def test_against_trying_all_numbers(self):
        random = Random(38)
        for _ in range(300):
            limit = random.choice(LIMITS)
            hop = some_hop(random, limit, False)
            self.assertEqual(least_idle(limit, hop), told_idle(limit, hop))
            hop = (random.randint(50, 2000), 2000, random.randrange(25), random.randint(1, 50), random.randint(3, 32))
            self.assertEqual(least_idle(limit, hop), told_idle(limit, hop))

    def test_gap_is_never_read_as_1_to_limit_bits(self):
        random = Random(39)
        for _ in range(200):
            limit = random.choice(LIMITS)
            hop = some_hop(random, limit, random.random() < 0.5)
            idle = least_idle(limit, hop)
            self.assertGreater(self.fewest(hop, idle), limit)
            self.assertGreater(self.fewest(hop, idle + 1), limit)
            if idle > 0:
                self.assertLessEqual(self.fewest(hop, idle - 1), limit)

    def fewest(self, hop, idle):
        """Return the least number of bits as which the gap with so many ones is read."""
        least, _, jitter, poll, polls_per_bit = hop
        signal = [3000 + jitter, 3000 + (idle + 1) * least - jitter]
        polls = [detection_polls((poll, polls_per_bit), phase, signal) for phase in range(poll)]
        return min(gap_bits((poll, polls_per_bit), found[1] - found[0]) if found else 0 for found in polls)

    def test_safe_hop_receives_just_the_payloads(self):
        random = Random(40)
        for _ in range(300):
            limit = random.choice(LIMITS)
            hop = some_hop(random, limit, True)
            payloads, idles = some_stream(random, limit, limit)
            bit_time, shifts, phase = some_play(random, hop, 60)
            signal = stream_signal(limit, payloads, idles, hop[2] + random.randrange(60), bit_time, shifts)
            self.assertEqual(receive(limit, hop[3:], phase, signal), payloads)


class RunsIntoTest(unittest.TestCase):
    def test_each_limit(self):
        for limit in LIMITS:
            for idle in range(limit):
                # The ones between the frames, and the zero behind them, are taken for a payload and a flag.
                self.assertEqual(runs_into(limit, idle), ["", "1" * idle, ""])
            for idle in range(limit, 21):
                self.assertEqual(runs_into(limit, idle), ["", ""])


class FrameOfEdgeTest(unittest.TestCase):
    def test_some(self):
        self.assertEqual(frame_of_edge(2, [""], ()), [0, 0, 0, 0])
        self.assertEqual(frame_of_edge(2, ["", "01", "11"], (0, 3)), [0] * 4 + [1] * 5 + [2] * 5)

    def test_by_the_places_of_edges(self):
        random = Random(41)
        for _ in range(100):
            limit = random.choice(LIMITS)
            payloads, idles = some_stream(random, limit)
            bits, places = told_bits(limit, payloads, idles)
            expected = [sum(1 for place in places if place <= edge) - 1 for edge in zeros_of(bits)]
            self.assertEqual(frame_of_edge(limit, payloads, idles), expected)


class UntouchedTest(unittest.TestCase):
    STREAM = (2, ["", "01", "11"], (0, 3))  # Edges 0 to 3, 4 to 8, 9 to 13.

    def test_no_edges(self):
        self.assertEqual(untouched(*self.STREAM, []), [0, 1, 2])

    def test_each_edge(self):
        for edge in range(14):
            frame = 0 if edge < 4 else 1 if edge < 9 else 2
            self.assertEqual(untouched(*self.STREAM, [edge]), [number for number in range(3) if number != frame])

    def test_edges_that_there_are_not(self):
        self.assertEqual(untouched(*self.STREAM, [14]), [0, 1, 2])
        self.assertEqual(untouched(*self.STREAM, [14, 300, 5]), [0, 2])
        self.assertEqual(untouched(*self.STREAM, [-1, -14]), [0, 1, 2])

    def test_several_edges_of_one_frame(self):
        self.assertEqual(untouched(*self.STREAM, [5, 4, 8]), [0, 2])
        self.assertEqual(untouched(*self.STREAM, [13, 0, 1]), [1])
        self.assertEqual(untouched(*self.STREAM, [13, 8, 3]), [])

    def test_edge_given_twice(self):
        self.assertEqual(untouched(*self.STREAM, [9, 9]), [0, 1])
        self.assertEqual(untouched(*self.STREAM, [9, 0, 9, 0]), [1])

    def test_one_frame(self):
        self.assertEqual(untouched(2, [""], (), []), [0])
        self.assertEqual(untouched(2, [""], (), [3]), [])
        self.assertEqual(untouched(2, [""], (), [4]), [0])


class LatestStartTest(unittest.TestCase):
    def test_some(self):
        # The last of 10 bits begins 720 behind the start, and is detected 19 later at most.
        self.assertEqual(latest_start(2, [""], (), HOP, 1739), 1000)
        self.assertEqual(latest_start(2, ["", ""], (3,), (80, 85, 10, 20, 4), 5000), 5000 - 22 * 85 - 10 - 19)

    def test_none(self):
        self.assertEqual(latest_start(2, [""], (), HOP, 739), 0)
        self.assertIsNone(latest_start(2, [""], (), HOP, 738))
        self.assertIsNone(latest_start(2, [""], (), HOP, 0))
        self.assertEqual(latest_start(2, [""], (), (80, 85, 10, 20, 4), 9 * 85 + 39), 10)
        self.assertIsNone(latest_start(2, [""], (), (80, 85, 10, 20, 4), 9 * 85 + 38))

    def test_last_edge_is_detected_by_the_time(self):
        random = Random(42)
        for _ in range(200):
            limit = random.choice(LIMITS)
            hop = some_hop(random, limit, random.random() < 0.7)
            payloads, idles = some_stream(random, limit)
            many = told_bits(limit, payloads, idles)[0].count("0")
            most = random.randint(500000, 600000)
            start = latest_start(limit, payloads, idles, hop, most)
            worst = (hop[1], (0,) * (many - 1) + (hop[2],))
            found = [self.detected(limit, payloads, idles, hop, start, worst + (phase,)) for phase in range(hop[3])]
            self.assertEqual(max(found), most)
            self.assertEqual(max(self.detected(limit, payloads, idles, hop, start + 1, worst + (phase,))
                                 for phase in range(hop[3])), most + 1)
            for _ in range(5):
                play = some_play(random, hop, many)
                self.assertLessEqual(self.detected(limit, payloads, idles, hop, start, play), most)

    def detected(self, limit, payloads, idles, hop, start, play):
        """Return the time at which the last edge of a stream is detected."""
        bit_time, shifts, phase = play
        signal = stream_signal(limit, payloads, idles, start, bit_time, shifts)
        found = detection_polls(hop[3:], phase, signal)[-1] * hop[3] + phase
        self.assertIn(found - signal[-1], range(hop[3]))
        return found


if __name__ == "__main__":
    unittest.main()
