"""Point 41: slips of frames, and those that are harmless, lost, silent and missed."""

import unittest

from edgelink.bits import bytes_of
from edgelink.checks import check_bits, pack
from edgelink.frames import frame_gaps, read_gaps
from edgelink.slips import harmless, lost, missed, silent, slips, slips_of_two
from samples import GENERATORS, LIMITS, all_bits_to, some_bits, some_bytes


def told_slips(limit, payload):
    """Return all slips, as point 41 tells them."""
    gaps = frame_gaps(limit, payload)
    found = []
    for gap in range(len(gaps)):
        for way in (-1, 1):
            read = list(gaps)
            read[gap] += way
            found.append((gap, way, read_gaps(limit, read)))
    return found


def told_intact(generator, bits):
    """Return the bits before the check bits, or None if bits are not intact."""
    end = len(bits) - (len(generator) - 1)
    return bits[:end] if end >= 0 and check_bits(generator, bits[:end]) == bits[end:] else None


def told_silent(limit, generator, numbers):
    """Return the silent slips, and how many are missed."""
    payload = pack(generator, numbers)
    found = []
    many = 0
    for gap, way, payloads in told_slips(limit, payload):
        others = [told_intact(generator, other) for other in payloads if other != payload]
        others = [other for other in others if other is not None]
        many += len(others) > 0
        whole = [bytes_of(other) for other in others if len(other) % 8 == 0]
        if whole:
            found.append((gap, way, whole[0]))
    return found, many


class SlipsTest(unittest.TestCase):
    def test_payload_without_bits(self):
        # Gaps of 4, 1 and 4 bits.
        self.assertEqual(slips(2, ""), [(0, -1, []), (0, 1, []), (1, -1, []), (1, 1, ["1"]), (2, -1, []), (2, 1, [])])
        self.assertEqual(slips(7, ""), [(0, -1, []), (0, 1, []), (1, -1, []), (1, 1, ["1"]), (2, -1, []), (2, 1, [])])

    def test_some_payloads(self):
        # Gaps of 4, 3, 1 and 4 bits.
        self.assertEqual(slips(2, "11"), [(0, -1, []), (0, 1, []), (1, -1, ["10"]), (1, 1, [""]),
                                          (2, -1, []), (2, 1, ["111"]), (3, -1, []), (3, 1, [])])
        # Gaps of 5, 1, 2 and 5 bits.
        self.assertEqual(slips(3, "01"), [(0, -1, []), (0, 1, []), (1, -1, []), (1, 1, ["101"]),
                                          (2, -1, ["0"]), (2, 1, ["011"]), (3, -1, []), (3, 1, [])])

    def test_payload_falls_into_two(self):
        # Gaps of 4, 1, 3, 1, 1 and 4 bits, of which the third one becomes the gap of a flag.
        self.assertIn((2, 1, ["", "0"]), slips(2, "0110"))

    def test_against_the_words_of_the_document(self):
        for limit in LIMITS:
            for payload in all_bits_to(7) + [some_bits(limit, 100, ones=3), "1" * 40]:
                self.assertEqual(slips(limit, payload), told_slips(limit, payload))


class HarmlessAndLostTest(unittest.TestCase):
    def test_some(self):
        self.assertEqual(lost(2, ""), [(0, -1), (0, 1), (1, -1), (2, -1), (2, 1)])
        self.assertEqual(lost(2, "11"), [(0, -1), (0, 1), (2, -1), (3, -1), (3, 1)])
        self.assertEqual(harmless(2, ""), [])
        self.assertEqual(harmless(2, "11"), [])

    def test_the_gap_before_a_flag(self):
        # A gap of the limit becomes one of the limit + 1: no payload is complete behind it.
        self.assertEqual(lost(2, "1"), [(0, -1), (0, 1), (1, 1), (2, -1), (2, 1)])

    def test_against_all_slips(self):
        for limit in LIMITS:
            for payload in all_bits_to(8) + [some_bits(limit, 60, ones=3)]:
                found = told_slips(limit, payload)
                self.assertEqual(lost(limit, payload), [slip[:2] for slip in found if slip[2] == []])
                self.assertEqual(harmless(limit, payload), [slip[:2] for slip in found if slip[2] == [payload]])


class SilentTest(unittest.TestCase):
    def test_none(self):
        self.assertEqual(silent(2, "100000111", []), [])
        self.assertEqual(missed(2, "100000111", []), 0)

    def test_other_payload_without_bytes(self):
        # The payload falls into "00000", "0": both are intact, and only the last one holds whole bytes, none.
        self.assertEqual(pack("11", [192]), "000000110")
        self.assertIn((7, 1, ["00000", "0"]), slips(2, "000000110"))
        self.assertIn((7, 1, []), silent(2, "11", [192]))

    def test_several_that_come_out(self):
        # With a limit of 6 a run of six ones becomes a flag; what stands before and behind it comes out.
        self.assertEqual(pack("11", [252]), "0" + "0111111" + "0")
        self.assertIn((3, 1, ["0", "0"]), slips(6, "001111110"))
        self.assertEqual(silent(6, "11", [252])[0], (3, 1, []))

    def test_the_first_one_counts(self):
        # "0" holds no bytes, "000000011" holds the byte 128.
        self.assertEqual(pack("11", [252, 128]), "0" + "0111111" + "000000011")
        self.assertIn((3, 1, ["0", "000000011"]), slips(6, pack("11", [252, 128])))
        self.assertIn((3, 1, []), silent(6, "11", [252, 128]))
        self.assertEqual(pack("11", [128, 253]), "000000011" + "0111111" + "0")
        self.assertIn((9, 1, ["000000011", "0"]), slips(6, pack("11", [128, 253])))
        self.assertIn((9, 1, [128]), silent(6, "11", [128, 253]))
        for numbers in ([252, 128], [128, 253]):
            told = [slip[:2] for slip in silent(6, "11", numbers)]
            self.assertEqual(len(told), len(set(told)))

    def test_against_the_words_of_the_document(self):
        for generator in GENERATORS:
            for limit in LIMITS:
                for numbers in [[], [0], [255], [192], [252], [7, 224], [252, 128], [31, 252, 0, 1]]:
                    expected, many = told_silent(limit, generator, numbers)
                    self.assertEqual(silent(limit, generator, numbers), expected)
                    self.assertEqual(missed(limit, generator, numbers), many)

    def test_all_bytes(self):
        for generator in ("11", "100000111"):
            silents = misses = 0
            for number in range(256):
                for limit in (2, 6):
                    expected, many = told_silent(limit, generator, [number])
                    self.assertEqual(silent(limit, generator, [number]), expected)
                    self.assertEqual(missed(limit, generator, [number]), many)
                    silents, misses = silents + len(expected), misses + many
            if generator == "11":
                # Some are intact, but hold no whole bytes.
                self.assertGreater(misses, silents)
                self.assertGreater(silents, 0)

    def test_long_bytes(self):
        for generator in ("11", "1011", "100000111"):
            for seed in range(6):
                numbers = some_bytes(seed, 20)
                expected, many = told_silent(3, generator, numbers)
                self.assertEqual(silent(3, generator, numbers), expected)
                self.assertEqual(missed(3, generator, numbers), many)


class SlipsOfTwoTest(unittest.TestCase):
    def test_payload_without_bits(self):
        # Gaps of 4, 1 and 4 bits.
        self.assertEqual(slips_of_two(2, ""), [(0, 1, []), (0, 2, []), (1, 0, []), (1, 2, []), (2, 0, []), (2, 1, [])])

    def test_a_one_moves(self):
        # Gaps of 5, 2, 2 and 5 bits: one bit less and one more.
        self.assertEqual(read_gaps(3, [5, 2, 2, 5]), ["101"])
        found = slips_of_two(3, "101")
        self.assertIn((1, 2, ["011"]), found)
        self.assertIn((2, 1, ["110"]), found)

    def test_against_all_pairs(self):
        for limit in LIMITS:
            for payload in all_bits_to(5) + [some_bits(limit, 40, ones=3)]:
                gaps = frame_gaps(limit, payload)
                expected = []
                for first in range(len(gaps)):
                    for second in range(len(gaps)):
                        if first != second:
                            read = list(gaps)
                            read[first] -= 1
                            read[second] += 1
                            expected.append((first, second, read_gaps(limit, read)))
                self.assertEqual(slips_of_two(limit, payload), expected)


if __name__ == "__main__":
    unittest.main()
