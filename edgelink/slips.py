"""Slips: gaps of a frame that are read as one bit less or more, and what comes out."""

from edgelink.checks import is_intact, pack, unpack
from edgelink.frames import frame_gaps, read_gaps


def slips(limit, payload):
    """Return the gap, the way and what comes out for all slips of the frame of a payload."""
    gaps = frame_gaps(limit, payload)
    found = []
    for gap in range(len(gaps)):
        for way in (-1, 1):
            found.append((gap, way, read_gaps(limit, changed(gaps, gap, way))))
    return found


def changed(gaps, gap, way):
    """Return gaps of which one is read as a bit less, or more."""
    return gaps[:gap] + [gaps[gap] + way] + gaps[gap + 1:]


def harmless(limit, payload):
    """Return the gap and the way of the slips by which just the payload comes out."""
    return [(gap, way) for gap, way, payloads in slips(limit, payload) if payloads == [payload]]


def lost(limit, payload):
    """Return the gap and the way of the slips by which nothing comes out."""
    return [(gap, way) for gap, way, payloads in slips(limit, payload) if payloads == []]


def intact_slips(limit, generator, numbers):
    """Return the gap, the way, and the other payloads that are intact, for the slips of packed bytes."""
    payload = pack(generator, numbers)
    found = []
    for gap, way, payloads in slips(limit, payload):
        others = [other for other in payloads if other != payload and is_intact(generator, other)]
        found.append((gap, way, others))
    return found


def silent(limit, generator, numbers):
    """Return the gap, the way and the bytes of the silent slips of packed bytes."""
    found = []
    for gap, way, others in intact_slips(limit, generator, numbers):
        whole = [unpack(generator, other) for other in others if unpack(generator, other) is not None]
        if whole:
            found.append((gap, way, whole[0]))
    return found


def missed(limit, generator, numbers):
    """Return the number of the slips of packed bytes by which another intact payload comes out."""
    return len([others for _, _, others in intact_slips(limit, generator, numbers) if others])


def slips_of_two(limit, payload):
    """Return what comes out for each gap that is read as a bit less and each other one as a bit more."""
    gaps = frame_gaps(limit, payload)
    found = []
    for first in range(len(gaps)):
        less = changed(gaps, first, -1)
        for second in range(len(gaps)):
            if second != first:
                found.append((first, second, read_gaps(limit, changed(less, second, 1))))
    return found
