"""Inputs that several tests share."""

from itertools import product
from random import Random

LIMITS = range(2, 8)

GENERATORS = ["11", "101", "111", "1011", "10011", "110101", "1000011", "10001001", "100000111", "111010101"]


def all_bits(size):
    """Return all bits of a size, ascending as texts."""
    return ["".join(digits) for digits in product("01", repeat=size)]


def all_bits_to(size):
    """Return all bits of no more than a size."""
    return [bits for count in range(size + 1) for bits in all_bits(count)]


def some_bits(seed, size, ones=1, zeros=1):
    """Return bits of a size, always the same for a seed, mixed in the proportion that is told."""
    random = Random(seed)
    return "".join(random.choices("10", [ones, zeros], k=size))


def some_bytes(seed, size):
    """Return bytes, always the same for a seed."""
    random = Random(seed)
    return [random.randrange(256) for _ in range(size)]


def stuffed(limit, bits):
    """Stuff bits one by one, as point 8 tells it."""
    found = ""
    run = 0
    for bit in bits:
        found += bit
        run = run + 1 if bit == "1" else 0
        if run == limit:
            found += "0"
            run = 0
    return found


def told_margins(hop, gap):
    """Return the early and the late margin of a gap, as point 18 tells them."""
    least, greatest, jitter, poll, polls_per_bit = hop
    early = gap * least - 2 * jitter - poll - ((2 * gap - 1) * polls_per_bit // 2) * poll
    late = ((2 * gap + 1) * polls_per_bit // 2) * poll - gap * greatest - 2 * jitter
    return early, late


def told_safe(limit, hop):
    """Tell whether a hop is safe, as point 19 tells it."""
    return all(bound >= 0 for gap in range(1, limit + 3) for bound in told_margins(hop, gap))


def some_hop(random, limit, safe):
    """Return a hop within the bounds of point 17 that is safe for a limit, or one that is not."""
    while True:
        poll, polls_per_bit = random.randrange(1, 51), random.randrange(3, 33)
        bit = poll * polls_per_bit
        room = 1 + bit // random.choice([2, 8, 15, 30, 200])
        least = bit + random.randrange(-room, room)
        greatest = least + random.randrange(room)
        jitter = random.choice([0, 1, random.randrange(1 + room)])
        hop = (least, greatest, jitter, poll, polls_per_bit)
        if 50 <= least and greatest <= 2000 and jitter <= 500 and 2 * jitter < least and told_safe(limit, hop) == safe:
            return hop


def some_play(random, hop, many):
    """Return a play of a hop, often at its bounds, with at most so many shifts."""
    least, greatest, jitter, poll, _ = hop
    bit_time = random.choice([least, greatest, random.randint(least, greatest)])
    shift = random.choice([lambda: random.choice([-jitter, jitter]), lambda: random.randint(-jitter, jitter)])
    shifts = tuple(shift() for _ in range(random.choice([0, random.randint(0, many), many])))
    return bit_time, shifts, random.randrange(poll)


def is_play(hop, play):
    """Tell whether a play is within the bounds of a hop."""
    least, greatest, jitter, poll, _ = hop
    bit_time, shifts, phase = play
    return (least <= bit_time <= greatest and isinstance(shifts, tuple) and 0 <= phase < poll
            and all(-jitter <= shift <= jitter for shift in shifts))
