"""Point 5: the bits of bytes."""

import unittest

from edgelink.bits import bits_of, bytes_of
from samples import all_bits, some_bits, some_bytes


class BitsOfTest(unittest.TestCase):
    def test_lowest_digit_is_first(self):
        self.assertEqual(bits_of([0]), "00000000")
        self.assertEqual(bits_of([1]), "10000000")
        self.assertEqual(bits_of([2]), "01000000")
        self.assertEqual(bits_of([6]), "01100000")
        self.assertEqual(bits_of([128]), "00000001")
        self.assertEqual(bits_of([200]), "00010011")
        self.assertEqual(bits_of([255]), "11111111")

    def test_every_byte(self):
        for number in range(256):
            self.assertEqual(bits_of([number]), f"{number:08b}"[::-1])

    def test_bytes_come_one_behind_the_other(self):
        self.assertEqual(bits_of([1, 128, 3]), "10000000" + "00000001" + "11000000")

    def test_no_bytes(self):
        self.assertEqual(bits_of([]), "")
        self.assertEqual(bits_of(()), "")

    def test_tuple_is_as_list(self):
        self.assertEqual(bits_of((5, 250)), bits_of([5, 250]))


class BytesOfTest(unittest.TestCase):
    def test_digits_have_their_weights(self):
        for place in range(8):
            bits = "0" * place + "1" + "0" * (7 - place)
            self.assertEqual(bytes_of(bits), [2 ** place])

    def test_several_bytes(self):
        self.assertEqual(bytes_of("10000000" + "00000001" + "11000000"), [1, 128, 3])

    def test_no_bits_are_no_bytes(self):
        self.assertEqual(bytes_of(""), [])

    def test_none_unless_multiple_of_eight(self):
        for size in range(1, 40):
            self.assertEqual(bytes_of("1" * size) is None, size % 8 != 0)

    def test_both_lead_back(self):
        for bits in all_bits(8):
            self.assertEqual(bits_of(bytes_of(bits)), bits)
        for seed in range(30):
            numbers = some_bytes(seed, seed)
            self.assertEqual(bytes_of(bits_of(numbers)), numbers)
            self.assertEqual(bytes_of(bits_of(tuple(numbers))), numbers)
            bits = some_bits(seed, 256)
            self.assertEqual(bits_of(bytes_of(bits)), bits)

    def test_kinds_of_values(self):
        found = bytes_of("0" * 16)
        self.assertIs(type(found), list)
        self.assertEqual([type(number) for number in found], [int, int])


if __name__ == "__main__":
    unittest.main()
