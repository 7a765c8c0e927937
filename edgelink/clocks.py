"""Bit times that are measured: which of them explain what a receiver has detected."""

from edgelink.errors import Refused
from edgelink.frames import distances, sums
from edgelink.receivers import ceiling, detection_time


def measured(receiver, phase, polls, bits, jitter):
    """Return the least and the greatest bit time that explain detections, or None if none does."""
    refuse_detections(polls, bits)
    edges = edges_of(receiver, phase, polls, bits, jitter)
    pairs = pairs_of(edges)
    least = max([1] + [required(edges, pair) for pair in pairs])
    greatest = min([allowed(edges, pair) for pair in pairs])
    return (least, greatest) if least <= greatest else None


def refuse_detections(polls, bits):
    """Raise what is wrong with detections."""
    refuse_numbers(polls, bits)
    if len(polls) < 2:
        raise Refused("too few polls")


def refuse_numbers(polls, bits):
    """Raise what is wrong with the numbers of polls and of bits, however few they are."""
    if min(polls, default=1) < 1 or min(distances(polls), default=1) < 1:
        raise Refused("polls out of order")
    if len(bits) != len(polls) - 1 or min(bits, default=1) < 1:
        raise Refused("bits do not fit")


def edges_of(receiver, phase, polls, bits, jitter):
    """Return for each edge how many bits it is behind the first one, and its first and last time, shifts included."""
    found = []
    for place, number in zip(sums(bits), polls):
        first, last = detected_times(receiver, phase, number)
        found.append((place, first - jitter, last + jitter))
    return found


def detected_times(receiver, phase, number):
    """Return the first and the last time at which an edge can be that a poll detects."""
    return detection_time(receiver, phase, number - 1) + 1, detection_time(receiver, phase, number)


def pairs_of(edges):
    """Return all pairs of edges, by the later edge, then by the earlier one."""
    return [(early, late) for late in range(len(edges)) for early in range(late)]


def required(edges, pair):
    """Return the least bit time that a pair of edges requires."""
    early, late = pair
    return ceiling(edges[late][1] - edges[early][2], bits_of_pair(edges, pair))


def allowed(edges, pair):
    """Return the greatest bit time that a pair of edges lets be."""
    early, late = pair
    return (edges[late][2] - edges[early][1]) // bits_of_pair(edges, pair)


def bits_of_pair(edges, pair):
    """Return how many bits are between the edges of a pair."""
    early, late = pair
    return edges[late][0] - edges[early][0]


def barring(receiver, phase, polls, bits, jitter):
    """Return two pairs of edges that bar all bit times, or None if some bit time explains detections."""
    if measured(receiver, phase, polls, bits, jitter) is not None:
        return None
    edges = edges_of(receiver, phase, polls, bits, jitter)
    pairs = pairs_of(edges)
    # Of several pairs the first one, in the order of pairs_of, is taken.
    one = max(pairs, key=lambda pair: required(edges, pair))
    other = min(pairs, key=lambda pair: allowed(edges, pair))
    return one, other


def explained(receiver, phase, polls, bits, jitter, bit_time):
    """Return the least start and the least shifts with which a bit time explains detections, or None."""
    refuse_detections(polls, bits)
    edges = edges_of(receiver, phase, polls, bits, jitter)
    start = max([first - place * bit_time for place, first, _ in edges])
    latest = min([last - place * bit_time for place, _, last in edges])
    if bit_time < 1 or start > latest:
        return None
    shifts = []
    for (place, _, _), number in zip(edges, polls):
        first, last = detected_times(receiver, phase, number)
        shifts.append(shift_between(start + place * bit_time, first, last))
    return start, tuple(shifts)


def shift_between(time, first, last):
    """Return the shift, the least in size, that puts an edge between two times, both included."""
    return max(first - time, 0) + min(last - time, 0)


def is_barred(receiver, phase, polls, bits, jitter, pairs):
    """Tell whether two pairs are pairs of edges and bar all bit times."""
    refuse_numbers(polls, bits)
    edges = edges_of(receiver, phase, polls, bits, jitter)
    one, other = pairs
    if not is_pair(edges, one) or not is_pair(edges, other):
        return False
    greatest = allowed(edges, other)
    return greatest < 1 or required(edges, one) > greatest


def is_pair(edges, pair):
    """Tell whether a pair of integers is one of edges, the lesser one first."""
    early, late = pair
    return 0 <= early < late < len(edges)
