"""Points 14 and 15: polls that detect, how distances are read, and what is received."""

import unittest
from random import Random

from edgelink.frames import frame_bits, frame_gaps, read_gaps
from edgelink.receivers import detection_polls, detection_time, gap_bits, receive, received_gaps
from edgelink.signals import signal_of
from samples import LIMITS, all_bits_to, some_bits


def detected(receiver, phase, signal):
    """Return the polls that detect an edge, by numbers of edges up to each poll, as point 14 tells it."""
    found = []
    before = 0
    for number in range(max(signal, default=0) // receiver[0] + 3):
        many = sum(1 for edge in signal if edge <= phase + number * receiver[0])
        if (many - before) % 2 == 1:
            found.append(number)
        before = many
    return found


def read_as(polls_per_bit, distance):
    """Return the number of bits between the bounds of point 15."""
    if distance <= polls_per_bit // 2:
        return 0
    bits = [r for r in range(1, distance + 2)
            if (2 * r - 1) * polls_per_bit // 2 < distance <= (2 * r + 1) * polls_per_bit // 2]
    assert len(bits) == 1
    return bits[0]


class DetectionPollsTest(unittest.TestCase):
    def test_edge_just_at_a_poll(self):
        self.assertEqual(detection_polls((10, 4), 0, [30]), [3])
        self.assertEqual(detection_polls((10, 4), 3, [33]), [3])
        self.assertEqual(detection_polls((10, 4), 9, [39]), [3])

    def test_edge_one_behind_a_poll(self):
        self.assertEqual(detection_polls((10, 4), 0, [31]), [4])
        self.assertEqual(detection_polls((10, 4), 3, [34]), [4])
        self.assertEqual(detection_polls((10, 4), 9, [40]), [4])

    def test_edge_one_before_a_poll(self):
        self.assertEqual(detection_polls((10, 4), 0, [29]), [3])
        self.assertEqual(detection_polls((10, 4), 3, [32]), [3])

    def test_two_edges_between_two_polls(self):
        self.assertEqual(detection_polls((10, 4), 0, [31, 32]), [])
        self.assertEqual(detection_polls((10, 4), 0, [31, 40]), [])
        self.assertEqual(detection_polls((10, 4), 0, [5, 31, 40, 41]), [1, 5])
        self.assertEqual(detection_polls((10, 4), 0, [30, 31]), [3, 4])

    def test_three_edges_between_two_polls(self):
        self.assertEqual(detection_polls((10, 4), 0, [31, 32, 33]), [4])
        self.assertEqual(detection_polls((10, 4), 0, [12, 31, 36, 40, 41]), [2, 4, 5])
        self.assertEqual(detection_polls((10, 4), 0, [31, 32, 33, 34]), [])

    def test_edges_ahead_of_poll_0(self):
        self.assertEqual(detection_polls((10, 4), 9, [0]), [0])
        self.assertEqual(detection_polls((10, 4), 9, [9]), [0])
        self.assertEqual(detection_polls((10, 4), 9, [0, 4]), [])
        self.assertEqual(detection_polls((10, 4), 9, [0, 4, 8]), [0])
        self.assertEqual(detection_polls((10, 4), 9, [0, 4, 8, 10]), [0, 1])
        self.assertEqual(detection_polls((10, 4), 0, [0]), [0])
        self.assertEqual(detection_polls((10, 4), 0, [0, 1]), [0, 1])

    def test_phase_somewhat_beyond_its_bound(self):
        for signal in ([0], [0, 25], [4, 15, 26], [0, 1, 16]):
            self.assertEqual(detection_polls((10, 4), 25, signal), detected((10, 4), 25, signal))

    def test_no_edges(self):
        for phase in (0, 9):
            self.assertEqual(detection_polls((10, 4), phase, []), [])

    def test_poll_of_each_time_unit(self):
        self.assertEqual(detection_polls((1, 3), 0, [0, 1, 5, 9]), [0, 1, 5, 9])

    def test_against_numbers_of_edges(self):
        random = Random(14)
        for poll in (1, 2, 3, 7, 10, 50):
            for phase in {0, poll // 2, poll - 1}:
                for _ in range(40):
                    signal = sorted(random.sample(range(8 * poll + 40), random.randrange(30)))
                    receiver = (poll, 5)
                    self.assertEqual(detection_polls(receiver, phase, signal), detected(receiver, phase, signal))


class DetectionTimeTest(unittest.TestCase):
    def test_time_of_a_poll(self):
        self.assertEqual(detection_time((20, 4), 0, 0), 0)
        self.assertEqual(detection_time((20, 4), 19, 0), 19)
        self.assertEqual(detection_time((20, 4), 3, 7), 143)
        self.assertEqual(detection_time((1, 32), 0, 1000000), 1000000)

    def test_edge_is_detected_at_once_or_within_a_poll(self):
        for phase in range(20):
            for edge in range(phase, 90):
                number, = detection_polls((20, 4), phase, [edge])
                self.assertIn(detection_time((20, 4), phase, number) - edge, range(20))


class GapBitsTest(unittest.TestCase):
    def test_bounds_of_each_number_of_bits(self):
        for polls_per_bit in range(3, 33):
            receiver = (7, polls_per_bit)
            for bits in range(1, 40):
                above = (2 * bits - 1) * polls_per_bit // 2
                most = (2 * bits + 1) * polls_per_bit // 2
                self.assertEqual(gap_bits(receiver, above), bits - 1)
                self.assertEqual(gap_bits(receiver, above + 1), bits)
                self.assertEqual(gap_bits(receiver, most), bits)
                self.assertEqual(gap_bits(receiver, most + 1), bits + 1)

    def test_half_a_bit_is_rounded_down(self):
        self.assertEqual([gap_bits((20, 4), polls) for polls in (2, 3, 6, 7, 10, 11)], [0, 1, 1, 2, 2, 3])

    def test_odd_polls_per_bit(self):
        self.assertEqual([gap_bits((20, 3), polls) for polls in range(9)], [0, 0, 1, 1, 1, 2, 2, 2, 3])

    def test_distance_of_0(self):
        for polls_per_bit in range(3, 33):
            self.assertEqual(gap_bits((1, polls_per_bit), 0), 0)

    def test_every_distance(self):
        for polls_per_bit in range(3, 33):
            for distance in range(200):
                self.assertEqual(gap_bits((1, polls_per_bit), distance), read_as(polls_per_bit, distance))

    def test_poll_does_not_matter(self):
        self.assertEqual([gap_bits((poll, 8), 21) for poll in (1, 20, 50)], [3, 3, 3])

    def test_long_distance(self):
        self.assertEqual(gap_bits((1, 3), 1000000), 333333)
        self.assertEqual(gap_bits((1, 4), 1000002), 250000)
        self.assertEqual(gap_bits((1, 4), 1000003), 250001)


class ReceivedGapsTest(unittest.TestCase):
    def test_distances_as_they_are_read(self):
        self.assertEqual(received_gaps((10, 4), 0, [30, 70, 150, 270]), [1, 2, 3])
        self.assertEqual(received_gaps((10, 4), 0, [30, 50, 80]), [0, 1])

    def test_edges_that_are_not_detected(self):
        self.assertEqual(received_gaps((10, 4), 0, [30, 71, 72, 150]), [3])

    def test_no_detection_and_one(self):
        self.assertEqual(received_gaps((10, 4), 0, []), [])
        self.assertEqual(received_gaps((10, 4), 0, [31, 32]), [])
        self.assertEqual(received_gaps((10, 4), 0, [30]), [])
        self.assertEqual(received_gaps((10, 4), 9, [31, 32, 77]), [])

    def test_against_polls_and_bounds(self):
        random = Random(15)
        for receiver in [(1, 3), (3, 4), (10, 7), (50, 32)]:
            for phase in {0, receiver[0] - 1}:
                for _ in range(20):
                    signal = sorted(random.sample(range(100 * receiver[0]), 25))
                    polls = detected(receiver, phase, signal)
                    expected = [read_as(receiver[1], b - a) for a, b in zip(polls, polls[1:])]
                    self.assertEqual(received_gaps(receiver, phase, signal), expected)


class ReceiveTest(unittest.TestCase):
    def test_frame_gives_just_its_payload(self):
        for phase in (0, 1, 10, 19):
            for payload in all_bits_to(6):
                signal = signal_of(frame_bits(2, payload), 2000, 80, ())
                self.assertEqual(received_gaps((20, 4), phase, signal), frame_gaps(2, payload))
                self.assertEqual(receive(2, (20, 4), phase, signal), [payload])

    def test_each_limit(self):
        for limit in LIMITS:
            for payload in ("", "1" * 30, some_bits(limit, 200), some_bits(limit, 100, ones=6)):
                signal = signal_of(frame_bits(limit, payload), 500, 160, (2, -2, 2))
                self.assertEqual(receive(limit, (10, 16), 3, signal), [payload])

    def test_payloads_that_the_gaps_give(self):
        signal = signal_of("01110" + "10" + "01110" + "1100" + "01110", 0, 80, ())
        self.assertEqual(receive(2, (20, 4), 0, signal), ["10", "110"])
        self.assertEqual(receive(3, (20, 4), 0, signal), [])
        random = Random(16)
        for _ in range(100):
            signal = sorted(random.sample(range(3000), 60))
            gaps = received_gaps((10, 4), 5, signal)
            self.assertEqual(receive(2, (10, 4), 5, signal), read_gaps(2, gaps))

    def test_wrong_bit_time_and_nothing_at_all(self):
        signal = signal_of(frame_bits(2, "0101"), 2000, 160, ())
        self.assertEqual(receive(2, (20, 4), 0, signal), [])
        self.assertEqual(receive(2, (20, 8), 0, signal), ["0101"])
        self.assertEqual(receive(2, (20, 4), 0, []), [])


if __name__ == "__main__":
    unittest.main()
