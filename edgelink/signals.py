"""Signals: the ascending times of edges."""

from edgelink.errors import Refused
from edgelink.frames import distances, zeros_of


def signal_of(bits, start, bit_time, shifts):
    """Return the signal of bits: an edge, shifted, at the beginning of each zero."""
    return signal_at(zeros_of(bits), start, bit_time, shifts)


def signal_at(places, start, bit_time, shifts):
    """Return the signal with an edge, shifted, at the beginning of the bit at each place."""
    signal = []
    before = -1  # The first edge may be at time 0, but not before it.
    for edge, place in enumerate(places):
        time = start + place * bit_time + shift_of(shifts, edge)
        if time <= before:
            raise Refused("edges out of order")
        signal.append(time)
        before = time
    return signal


def shift_of(shifts, edge):
    """Return the shift of an edge: 0 for those behind the shifts."""
    return shifts[edge] if edge < len(shifts) else 0


def bits_between(signal, bit_time):
    """Return the bits between edges that follow one another: half a bit time is rounded up."""
    return [(2 * distance + bit_time) // (2 * bit_time) for distance in distances(signal)]


def merged(one, two):
    """Return the signal of two signals together: edges of both at the same time fall out."""
    return sorted(set(one) ^ set(two))


def level_at(signal, time):
    """Return the level at a time: that behind an edge, if one is at this time."""
    return len([edge for edge in signal if edge <= time]) % 2
