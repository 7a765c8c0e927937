"""Payloads in their order, and how many zeros stuffing inserts into them."""

from math import gcd

from edgelink.frames import frame_bits
from edgelink.stuffing import greatest_stuffing, stuff


def zeros_in(limit, payload):
    """Return how many zeros the stuffing inserts."""
    return len(stuff(limit, payload)) - len(payload)


def counts(limit, size):
    """Return how many payloads of size bits have each number of inserted zeros, from 0 on."""
    return all_counts(limit, size)[size]


def all_counts(limit, size):
    """Return the counts for each number of bits from 0 to size, all as long as those for size."""
    rows = []
    for _ in range(size + 1):
        rows.append(next_counts(limit, rows, greatest_stuffing(limit, size) + 1))
    return rows


def next_counts(limit, rows, width):
    """Return the counts, so many of them, for one bit more than the last row is for."""
    size = len(rows)
    # Bits begin with fewer ones than the limit and a zero, behind which ones are counted anew ..
    shorter = rows[max(0, size - limit):]
    if size < limit:
        # .. or are ones alone, too few for an inserted zero ..
        ones = [1] + [0] * (width - 1)
    else:
        # .. or begin with as many ones as the limit, and an inserted zero.
        ones = [0] + rows[size - limit][:-1]
    return [sum(column) for column in zip(ones, *shorter)]


def payload_at(limit, size, zeros, index):
    """Return the payload of size bits, with so many inserted zeros, whose index this is, or None."""
    rows = all_counts(limit, size)
    if not 0 <= zeros < len(rows[size]) or not 0 <= index < rows[size][zeros]:
        return None
    payload = ""
    run = 0
    for rest in reversed(range(size)):
        # Those with a zero here stand before those with a one.
        before = rows[rest][zeros]
        if index < before:
            payload += "0"
            run = 0
        else:
            payload += "1"
            index -= before
            run += 1
        if run == limit:
            run = 0
            zeros -= 1
    return payload


def index_of(limit, payload):
    """Return the index of a payload among those with as many bits and inserted zeros."""
    rows = all_counts(limit, len(payload))
    zeros = zeros_in(limit, payload)
    index = 0
    run = 0
    for place, bit in enumerate(payload):
        if bit == "0":
            run = 0
        else:
            # Those with a zero here, and the same bits ahead of it, stand before this one.
            index += rows[len(payload) - place - 1][zeros]
            run += 1
        if run == limit:
            run = 0
            zeros -= 1
    return index


def mean_stuffing(limit, size):
    """Return the mean number of inserted zeros as a fraction in lowest terms."""
    found = counts(limit, size)
    total = sum([zeros * many for zeros, many in enumerate(found)])
    payloads = sum(found)
    divisor = gcd(total, payloads)
    return total // divisor, payloads // divisor


def length_bounds(limit, size):
    """Return the least and the greatest number of bits of the frames of payloads of size bits."""
    least = len(frame_bits(limit, "")) + size
    return least, least + greatest_stuffing(limit, size)


def payloads_by_length(limit, size, length):
    """Return how many payloads of size bits have a frame of so many bits."""
    least, greatest = length_bounds(limit, size)
    if length < least or length > greatest:
        return 0
    return counts(limit, size)[length - least]
