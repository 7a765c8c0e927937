"""Points 8, 9 and 10: frames, gaps, and how gaps are read."""

import unittest
from random import Random

from edgelink.frames import frame_bits, frame_gaps, gaps_of, read_gaps, zeros_of
from edgelink.stuffing import stuff, unstuff
from samples import LIMITS, all_bits_to, some_bits


def flag_of(limit):
    """Return the flag: a zero, one more one than the limit, and a zero."""
    return "0" + "1" * (limit + 1) + "0"


def bits_of_gaps(gaps):
    """Return bits that have these gaps, all of at least 1."""
    return "0" + "".join(["1" * (gap - 1) + "0" for gap in gaps])


def read_bits(limit, bits):
    """Return what stands between flags that follow one another, if it is the stuffing of something."""
    flag = flag_of(limit)
    places = [place for place in range(len(bits)) if bits.startswith(flag, place)]
    found = []
    for first, second in zip(places, places[1:]):
        if second >= first + len(flag):
            found.append(unstuff(limit, bits[first + len(flag):second]))
    return [payload for payload in found if payload is not None]


class FrameBitsTest(unittest.TestCase):
    def test_no_bits(self):
        self.assertEqual(frame_bits(2, ""), "0111001110")
        self.assertEqual(frame_bits(3, ""), "011110011110")
        self.assertEqual(frame_bits(7, ""), "0111111110" * 2)

    def test_known_frames(self):
        self.assertEqual(frame_bits(2, "0"), "01110" + "0" + "01110")
        self.assertEqual(frame_bits(2, "11"), "01110" + "110" + "01110")
        self.assertEqual(frame_bits(3, "1111"), "011110" + "11101" + "011110")

    def test_stuffed_payload_between_two_flags(self):
        for limit in LIMITS:
            for payload in all_bits_to(8):
                expected = flag_of(limit) + stuff(limit, payload) + flag_of(limit)
                self.assertEqual(frame_bits(limit, payload), expected)

    def test_flag_stands_nowhere_else(self):
        for limit in LIMITS:
            for payload in [*all_bits_to(8), some_bits(limit, 256, ones=5)]:
                bits = frame_bits(limit, payload)
                places = [place for place in range(len(bits)) if bits.startswith(flag_of(limit), place)]
                self.assertEqual(places, [0, len(bits) - limit - 3])


class GapsOfTest(unittest.TestCase):
    def test_known_gaps(self):
        self.assertEqual(gaps_of("011110"), [5])
        self.assertEqual(gaps_of("00"), [1])
        self.assertEqual(gaps_of("0111001110"), [4, 1, 4])
        self.assertEqual(gaps_of("11010010111"), [2, 1, 2])

    def test_fewer_than_two_zeros(self):
        for bits in ("", "0", "1", "111", "1101", "0111", "1110"):
            self.assertEqual(gaps_of(bits), [])

    def test_gaps_lead_back(self):
        for bits in all_bits_to(9):
            if "0" in bits:
                self.assertEqual(bits_of_gaps(gaps_of(bits)), bits.strip("1"))


class ZerosOfTest(unittest.TestCase):
    def test_known_places(self):
        self.assertEqual(zeros_of("011110"), [0, 5])
        self.assertEqual(zeros_of("1101001"), [2, 4, 5])
        self.assertEqual(zeros_of("110"), [2])

    def test_no_zeros(self):
        self.assertEqual(zeros_of(""), [])
        self.assertEqual(zeros_of("1111"), [])
        self.assertEqual(zeros_of("0"), [0])

    def test_all_small_bits(self):
        for bits in all_bits_to(8):
            self.assertEqual(zeros_of(bits), [place for place in range(len(bits)) if bits[place] == "0"])


class FrameGapsTest(unittest.TestCase):
    def test_known_gaps(self):
        self.assertEqual(frame_gaps(2, ""), [4, 1, 4])
        self.assertEqual(frame_gaps(2, "11"), [4, 3, 1, 4])
        self.assertEqual(frame_gaps(5, "0"), [7, 1, 1, 7])

    def test_gaps_of_frame_bits(self):
        for limit in LIMITS:
            for payload in [*all_bits_to(8), some_bits(limit, 256), "1" * 256]:
                self.assertEqual(frame_gaps(limit, payload), gaps_of(frame_bits(limit, payload)))


class ReadGapsTest(unittest.TestCase):
    def test_frame_gives_its_payload(self):
        for limit in LIMITS:
            for payload in [*all_bits_to(9), some_bits(1, 256), some_bits(2, 256, ones=9), "1" * 256, "0" * 256]:
                self.assertEqual(read_gaps(limit, frame_gaps(limit, payload)), [payload])

    def test_no_gaps(self):
        for limit in LIMITS:
            self.assertEqual(read_gaps(limit, []), [])

    def test_each_gap_while_a_payload_is_being_read(self):
        for limit in LIMITS:
            flag = limit + 2
            for gap in range(1, limit + 1):
                # A one and a zero ahead, so that it is seen where the gap adds.
                expected = "10" + "1" * (gap - 1)
                self.assertEqual(read_gaps(limit, [flag, 2, gap, flag]), [expected])
            self.assertEqual(read_gaps(limit, [flag, 2, limit + 1, 1, flag]), ["10" + "1" * limit])
            self.assertEqual(read_gaps(limit, [flag, limit + 1, limit, flag]), ["1" * (2 * limit - 1)])
            for gap in (limit + 3, limit + 4, 100, 0, -1, -limit, -100):
                self.assertEqual(read_gaps(limit, [flag, 1, gap, 1, flag]), [])
                self.assertEqual(read_gaps(limit, [flag, gap, flag]), [])
                self.assertEqual(read_gaps(limit, [flag, 1, gap, flag]), [])

    def test_each_gap_while_none_is_being_read(self):
        for limit in LIMITS:
            flag = limit + 2
            for gap in range(-3, 2 * limit + 5):
                if gap != flag:
                    self.assertEqual(read_gaps(limit, [gap]), [])
                    self.assertEqual(read_gaps(limit, [gap, flag]), [])
                    self.assertEqual(read_gaps(limit, [1, gap, 1, flag]), [])
                    self.assertEqual(read_gaps(limit, [gap, flag, 1, flag]), [""])
                    self.assertEqual(read_gaps(limit, [flag, 0, gap, 1, flag, 2, flag]), ["1"])
                    self.assertEqual(read_gaps(limit, [flag, limit + 3, gap, 1, flag]), [])

    def test_flag_alone_begins_a_payload(self):
        for limit in LIMITS:
            self.assertEqual(read_gaps(limit, [limit + 2]), [])
            self.assertEqual(read_gaps(limit, [limit + 2, 1]), [])
            self.assertEqual(read_gaps(limit, [limit + 2, 1, limit + 2]), [""])

    def test_flag_behind_a_flag(self):
        for limit in LIMITS:
            flag = limit + 2
            self.assertEqual(read_gaps(limit, [flag, flag]), [])
            self.assertEqual(read_gaps(limit, [flag, flag, flag]), [])
            self.assertEqual(read_gaps(limit, [flag, flag, 2, 1, flag]), ["10"])
            self.assertEqual(read_gaps(limit, [flag, 2, flag, flag, 1, flag]), ["1", ""])

    def test_flag_behind_one_more_than_the_limit(self):
        for limit in LIMITS:
            flag = limit + 2
            self.assertEqual(read_gaps(limit, [flag, limit + 1, flag]), [])
            self.assertEqual(read_gaps(limit, [flag, 1, limit + 1, flag]), [])
            # The flag begins a payload all the same.
            self.assertEqual(read_gaps(limit, [flag, 1, limit + 1, flag, 2, 2, flag]), ["101"])

    def test_two_frames_with_the_same_flag_between_them(self):
        for limit in LIMITS:
            flag = limit + 2
            self.assertEqual(read_gaps(limit, [flag, 2, 1, flag, 1, 2, flag]), ["10", "01"])
            for one, two in [("", ""), ("0", "11"), ("1" * limit, "1")]:
                gaps = frame_gaps(limit, one) + frame_gaps(limit, two)[1:]
                self.assertEqual(read_gaps(limit, gaps), [one, two])

    def test_frames_with_other_gaps_between_them(self):
        for limit in LIMITS:
            frames = [frame_gaps(limit, payload) for payload in ("01", "", "111")]
            for between in ([limit + 3], [0], [-2], [limit + 1], [2 * limit + 9], [1, limit + 1], [1, 0, 1]):
                gaps = frames[0] + between + frames[1] + between + frames[2]
                self.assertEqual(read_gaps(limit, gaps), ["01", "", "111"])
            # From 1 to the limit they are read as a payload of their own.
            for gap in range(1, limit + 1):
                expected = ["01", "1" * (gap - 1), ""]
                self.assertEqual(read_gaps(limit, frames[0] + [gap] + frames[1]), expected)

    def test_payload_that_ends_without_a_flag(self):
        for limit in LIMITS:
            self.assertEqual(read_gaps(limit, frame_gaps(limit, "0110")[:-1]), [])
            self.assertEqual(read_gaps(limit, frame_gaps(limit, "0110")[1:]), [])

    def test_against_bits_between_flags(self):
        random = Random(10)
        for limit in LIMITS:
            for _ in range(400):
                weights = [4] * limit + [3, 6, 1]
                gaps = random.choices(range(1, limit + 4), weights, k=random.randrange(30))
                self.assertEqual(read_gaps(limit, gaps), read_bits(limit, bits_of_gaps(gaps)))

    def test_tuple_is_as_list(self):
        self.assertEqual(read_gaps(2, (4, 1, 4)), [""])


if __name__ == "__main__":
    unittest.main()
