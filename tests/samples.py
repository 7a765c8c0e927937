"""Inputs that several tests share."""

from itertools import product
from random import Random

LIMITS = range(2, 8)

GENERATORS = ["11", "101", "111", "1011", "10011", "110101", "1000011", "10001001", "100000111", "111010101"]


def all_bits(size):
    """Return all bits of a size, ascending as texts."""
    return ["".join(digits) for digits in product("01", repeat=size)]


def all_bits_to(size):
    """Return all bits of no more than a size."""
    return [bits for count in range(size + 1) for bits in all_bits(count)]


def some_bits(seed, size, ones=1, zeros=1):
    """Return bits of a size, always the same for a seed, mixed in the proportion that is told."""
    random = Random(seed)
    return "".join(random.choices("10", [ones, zeros], k=size))


def some_bytes(seed, size):
    """Return bytes, always the same for a seed."""
    random = Random(seed)
    return [random.randrange(256) for _ in range(size)]


def stuffed(limit, bits):
    """Stuff bits one by one, as point 8 tells it."""
    found = ""
    run = 0
    for bit in bits:
        found += bit
        run = run + 1 if bit == "1" else 0
        if run == limit:
            found += "0"
            run = 0
    return found
