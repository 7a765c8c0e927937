"""Relays: they send what they detect with a bit time of their own, and with a delay."""

from edgelink.errors import Refused
from edgelink.frames import sums
from edgelink.receivers import ceiling, detection_polls, detection_time, received_gaps
from edgelink.signals import signal_at
from edgelink.tolerance import is_safe


def relay_signal(receiver, phase, delay, bit_time, shifts, signal):
    """Return the signal that a relay sends, or None if it is late or its edges are out of order."""
    found = detections(receiver, phase, signal)
    if not found:
        return []
    start = found[0][0] + delay
    if is_late(found, start, bit_time):
        return None
    try:
        return signal_at([place for _, place in found], start, bit_time, shifts)
    except Refused:
        return None


def detections(receiver, phase, signal):
    """Return the time of each detection, and how many bits it is behind the first one, as they are read."""
    polls = detection_polls(receiver, phase, signal)
    times = [detection_time(receiver, phase, number) for number in polls]
    places = sums(received_gaps(receiver, phase, signal))
    return list(zip(times, places))


def is_late(found, start, bit_time):
    """Tell whether a detection comes behind the time at which the first bit of its gap begins to be sent."""
    return any([time > start + (before + 1) * bit_time for (_, before), (time, _) in zip(found, found[1:])])


def backlogs(receiver, phase, delay, bit_time, signal):
    """Return the backlog of a relay at each detection."""
    found = detections(receiver, phase, signal)
    return [place + 1 - begun(time - found[0][0] - delay, bit_time) for time, place in found]


def begun(elapsed, bit_time):
    """Return how many bits have begun to be sent, so long behind the beginning of the first one."""
    return max(0, elapsed // bit_time + 1)


def least_delay(limit, payload_most, hop, later):
    """Return the least delay with which a relay between two hops is never late."""
    if not is_safe(limit, hop):
        raise Refused("hop is not safe")
    return max([0] + [needed_delay(limit, hop, later, place) for place in flag_ends(limit, payload_most)])


def most_stuffed(limit, payload_most):
    """Return how many bits a stuffed payload has at most."""
    return payload_most + payload_most // limit


def flag_ends(limit, payload_most):
    """Return how many bits the ends of flags can be behind the first edge of a frame, ascending."""
    # The gap that ends there is the longest one of a frame.
    second = 2 * limit + 5
    return [limit + 2] + list(range(second, second + most_stuffed(limit, payload_most) + 1))


def needed_delay(limit, hop, later, place):
    """Return the delay that is needed for the end of a flag so many bits behind the first edge."""
    _, greatest, jitter, poll, _ = hop
    least = later[0]
    return ceiling(place * greatest + 2 * jitter, poll) * poll - (place - limit - 1) * least


def buffer_depth(limit, payload_most, hop, later, delay):
    """Return the greatest backlog of a relay between two hops."""
    if delay < least_delay(limit, payload_most, hop, later):
        raise Refused("delay is too short")
    return max([greatest_backlog(hop, later, delay, place) for place in edge_places(limit, payload_most)])


def edge_places(limit, payload_most):
    """Return how many bits the edges of a frame can be behind its first one."""
    inner = range(limit + 2, limit + 4 + most_stuffed(limit, payload_most))
    return [0] + list(inner) + flag_ends(limit, payload_most)


def greatest_backlog(hop, later, delay, place):
    """Return the greatest backlog at the detection of an edge so many bits behind the first one."""
    least, _, jitter, poll, _ = hop
    greatest = later[1]
    # The first edge is no time behind itself, however it is shifted.
    elapsed = (place * least - 2 * jitter) // poll * poll if place > 0 else 0
    return place + 1 - begun(elapsed - delay, greatest)
