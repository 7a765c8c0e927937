"""Check bits by generators, and bursts."""

from edgelink.bits import bits_of, bytes_of


def added(one, two):
    """Return the sum, without carry, of two strings of bits of one length."""
    return "".join(["0" if a == b else "1" for a, b in zip(one, two)])


def check_bits(generator, bits):
    """Return the check bits of bits: one less than the generator has."""
    degree = len(generator) - 1
    rest = "0" * degree
    for bit in bits + "0" * degree:
        carry = rest[0]
        rest = rest[1:] + bit
        if carry == "1":
            # The generator's first bit only cancels the carry, which has been cut off.
            rest = added(rest, generator[1:])
    return rest


def is_intact(generator, bits):
    """Tell whether bits end with the check bits of those before them."""
    end = len(bits) - (len(generator) - 1)
    return end >= 0 and bits[end:] == check_bits(generator, bits[:end])


def pack(generator, numbers):
    """Return the bits of bytes, and the check bits behind them."""
    bits = bits_of(numbers)
    return bits + check_bits(generator, bits)


def unpack(generator, bits):
    """Return the bytes of packed bytes, or None if the bits are not packed bytes."""
    if not is_intact(generator, bits):
        return None
    return bytes_of(bits[:len(bits) - (len(generator) - 1)])


def burst(one, two):
    """Return how many places the differences of two strings of bits of one length span."""
    differences = added(one, two)
    if "1" not in differences:
        return 0
    return differences.rfind("1") - differences.find("1") + 1


def next_intact(generator, bits):
    """Return the bits with the generator added without carry to the last ones."""
    start = len(bits) - len(generator)
    return bits[:start] + added(bits[start:], generator)
