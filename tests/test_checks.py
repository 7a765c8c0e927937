"""Points 6 and 7: check bits and bursts."""

import unittest

from edgelink.bits import bits_of
from edgelink.checks import added, burst, check_bits, is_intact, next_intact, pack, unpack
from samples import GENERATORS, all_bits, all_bits_to, some_bits, some_bytes


def remainder(generator, bits):
    """Divide polynomials as numbers, highest power first, and return the check bits."""
    degree = len(generator) - 1
    rest = int("0" + bits, 2) << degree
    for power in range(len(bits) + degree, degree - 1, -1):
        if rest >> power & 1:
            rest ^= int(generator, 2) << (power - degree)
    return f"{rest:b}".zfill(degree)


def turned(bits, place):
    """Return bits with the one at a place turned."""
    return bits[:place] + "10"[int(bits[place])] + bits[place + 1:]


def all_generators(size):
    """Return all generators of a number of bits."""
    return ["1" + middle + "1" for middle in all_bits(size - 2)]


def patterns(span):
    """Return all patterns with a one that span so many places at most, told from the first one on."""
    return ["1" + rest for rest in all_bits_to(span - 1)]


class AddedTest(unittest.TestCase):
    def test_sum_without_carry(self):
        self.assertEqual(added("0011", "0101"), "0110")
        self.assertEqual(added("1", "1"), "0")
        self.assertEqual(added("", ""), "")

    def test_against_numbers(self):
        for one in all_bits(5):
            for two in all_bits(5):
                self.assertEqual(added(one, two), f"{int(one, 2) ^ int(two, 2):05b}")

    def test_twice_leads_back(self):
        one, two = some_bits(1, 256), some_bits(2, 256)
        self.assertEqual(added(added(one, two), two), one)


class CheckBitsTest(unittest.TestCase):
    def test_known_remainders(self):
        self.assertEqual(check_bits("1011", "11010011101100"), "100")
        self.assertEqual(check_bits("100000111", bits_of([49])[::-1]), f"{0x97:08b}")
        self.assertEqual(check_bits("11", "1011"), "1")
        self.assertEqual(check_bits("11", "1010"), "0")

    def test_no_bits(self):
        for generator in GENERATORS:
            self.assertEqual(check_bits(generator, ""), "0" * (len(generator) - 1))

    def test_all_generators_and_small_bits(self):
        for size in range(2, 7):
            for generator in all_generators(size):
                for bits in all_bits_to(7):
                    self.assertEqual(check_bits(generator, bits), remainder(generator, bits))

    def test_generators_of_each_size_and_long_bits(self):
        self.assertEqual({len(generator) for generator in GENERATORS}, set(range(2, 10)))
        for generator in GENERATORS:
            for seed, size in enumerate([8, 9, 17, 64, 100, 255, 256]):
                bits = some_bits(seed, size)
                self.assertEqual(check_bits(generator, bits), remainder(generator, bits))

    def test_all_generators_of_nine_bits(self):
        bits = some_bits(9, 40)
        for generator in all_generators(9):
            self.assertEqual(check_bits(generator, bits), remainder(generator, bits))


class IsIntactTest(unittest.TestCase):
    def test_bits_with_their_check_bits(self):
        for generator in GENERATORS:
            for bits in all_bits_to(6):
                self.assertIs(is_intact(generator, bits + check_bits(generator, bits)), True)

    def test_against_all_small_bits(self):
        for generator in ["11", "101", "1011", "10011"]:
            degree = len(generator) - 1
            for bits in all_bits_to(8):
                intact = len(bits) >= degree and remainder(generator, bits[:len(bits) - degree]) == \
                    bits[len(bits) - degree:]
                self.assertIs(is_intact(generator, bits), intact)

    def test_fewer_bits_than_check_bits(self):
        for generator in GENERATORS:
            for size in range(len(generator) - 1):
                self.assertIs(is_intact(generator, "0" * size), False)
                self.assertIs(is_intact(generator, "1" * size), False)

    def test_check_bits_alone(self):
        for generator in GENERATORS:
            degree = len(generator) - 1
            self.assertIs(is_intact(generator, "0" * degree), True)
            self.assertIs(is_intact(generator, "0" * (degree - 1) + "1"), False)

    def test_one_bit_turned(self):
        for generator in GENERATORS:
            for seed in range(4):
                bits = some_bits(seed, 20 * seed)
                intact = bits + check_bits(generator, bits)
                for place in range(len(intact)):
                    self.assertIs(is_intact(generator, turned(intact, place)), False)


class PackTest(unittest.TestCase):
    def test_bits_and_their_check_bits(self):
        for generator in GENERATORS:
            for seed in range(6):
                numbers = some_bytes(seed, seed)
                bits = bits_of(numbers)
                self.assertEqual(pack(generator, numbers), bits + remainder(generator, bits))

    def test_unpacked_again(self):
        for generator in GENERATORS:
            for seed in range(12):
                numbers = some_bytes(seed, seed)
                self.assertEqual(unpack(generator, pack(generator, numbers)), numbers)
                self.assertEqual(unpack(generator, pack(generator, tuple(numbers))), numbers)

    def test_no_bytes(self):
        for generator in GENERATORS:
            self.assertEqual(pack(generator, []), "0" * (len(generator) - 1))
            self.assertEqual(unpack(generator, pack(generator, ())), [])

    def test_unpack_is_none_unless_intact(self):
        for generator in GENERATORS:
            packed = pack(generator, [1, 77, 255])
            for place in range(len(packed)):
                self.assertIsNone(unpack(generator, turned(packed, place)))
            self.assertIsNone(unpack(generator, "0" * (len(generator) - 2)))

    def test_unpack_is_none_unless_whole_bytes(self):
        for generator in GENERATORS:
            for size in range(26):
                bits = some_bits(size, size)
                numbers = unpack(generator, bits + check_bits(generator, bits))
                if size % 8 == 0:
                    self.assertEqual(bits_of(numbers), bits)
                else:
                    self.assertIsNone(numbers)

    def test_whole_bytes_are_those_before_the_check_bits(self):
        # 8 bits in all, but only 5 before the check bits.
        self.assertIsNone(unpack("1011", "00000000"))
        self.assertEqual(unpack("1011", "00000000000"), [0])


class BurstTest(unittest.TestCase):
    def test_equal_texts(self):
        for bits in all_bits_to(6):
            self.assertEqual(burst(bits, bits), 0)

    def test_one_place(self):
        for size in range(1, 8):
            bits = some_bits(size, size)
            for place in range(size):
                self.assertEqual(burst(bits, turned(bits, place)), 1)

    def test_two_places(self):
        bits = some_bits(3, 12)
        for first in range(12):
            for last in range(first + 1, 12):
                self.assertEqual(burst(bits, turned(turned(bits, first), last)), last - first + 1)

    def test_others(self):
        self.assertEqual(burst("0000", "1111"), 4)
        self.assertEqual(burst("0110", "0000"), 2)
        self.assertEqual(burst("10100", "00000"), 3)
        self.assertEqual(burst("00000", "00101"), 3)
        self.assertEqual(burst("10111", "11101"), 3)

    def test_same_both_ways(self):
        for one in all_bits(4):
            for two in all_bits(4):
                self.assertEqual(burst(one, two), burst(two, one))


class BurstsOfIntactBitsTest(unittest.TestCase):
    def test_different_intact_bits_differ_in_as_many_places_as_the_generator_has(self):
        for generator in ["11", "101", "111", "1011", "11001", "100101"]:
            intact = [bits for bits in all_bits(9) if is_intact(generator, bits)]
            bursts = {burst(one, two) for one in intact for two in intact if one != two}
            self.assertEqual(min(bursts), len(generator))

    def test_pattern_of_fewer_places_is_found(self):
        for generator in GENERATORS:
            intact = pack(generator, [19, 240])
            for pattern in patterns(len(generator) - 1):
                for place in (0, 3, len(intact) - len(pattern)):
                    there = ("0" * place + pattern).ljust(len(intact), "0")
                    self.assertIs(is_intact(generator, added(intact, there)), False)


class NextIntactTest(unittest.TestCase):
    def test_generator_is_added_to_the_last_bits(self):
        self.assertEqual(next_intact("1011", "0000000"), "0001011")
        self.assertEqual(next_intact("1011", "1111111"), "1110100")
        self.assertEqual(next_intact("11", "10"), "01")

    def test_intact_bits_stay_intact(self):
        for generator in GENERATORS:
            for seed in range(1, 20):
                bits = some_bits(seed, seed)
                intact = bits + check_bits(generator, bits)
                other = next_intact(generator, intact)
                self.assertIs(is_intact(generator, other), True)
                self.assertEqual(len(other), len(intact))
                self.assertEqual(burst(intact, other), len(generator))
                self.assertEqual(other[:len(other) - len(generator)], intact[:len(other) - len(generator)])

    def test_just_as_many_bits_as_the_generator(self):
        for generator in GENERATORS:
            none = "0" * len(generator)
            self.assertEqual(next_intact(generator, none), generator)
            self.assertIs(is_intact(generator, generator), True)
            self.assertEqual(next_intact(generator, generator), none)

    def test_bits_that_are_not_intact_stay_so(self):
        for bits in all_bits(6):
            self.assertIs(is_intact("1101", next_intact("1101", bits)), is_intact("1101", bits))


if __name__ == "__main__":
    unittest.main()
