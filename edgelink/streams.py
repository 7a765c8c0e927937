"""Streams: several frames, with idle ones between them."""

from edgelink.frames import frame_bits, frame_gaps, gaps_of, read_gaps, sums, zeros_of
from edgelink.receivers import ceiling, most_polls
from edgelink.signals import signal_of
from edgelink.tolerance import receiver_of


def stream_bits(limit, payloads, idles):
    """Return the bits of a stream."""
    bits = frame_bits(limit, payloads[0])
    for payload, idle in zip(payloads[1:], idles):
        bits += "1" * idle + frame_bits(limit, payload)
    return bits


def frame_places(limit, payloads, idles):
    """Return the places of the first bits of the frames."""
    sizes = [len(frame_bits(limit, payload)) + idle for payload, idle in zip(payloads, idles)]
    return sums(sizes)


def stream_signal(limit, payloads, idles, start, bit_time, shifts):
    """Return the signal of a stream."""
    return signal_of(stream_bits(limit, payloads, idles), start, bit_time, shifts)


def least_idle(limit, hop):
    """Return the least number of idle ones from which on a hop never reads them as 1 to limit bits."""
    least, _, jitter, poll, _ = hop
    # A distance of so many polls is read as more bits than the limit.
    time = (most_polls(receiver_of(hop), limit) + 1) * poll
    return max(0, ceiling(time + 2 * jitter, least) - 1)


def runs_into(limit, idle):
    """Return what is complete when two frames without payload bits are read, with so many ones between them."""
    return read_gaps(limit, gaps_of(stream_bits(limit, ["", ""], [idle])))


def frame_of_edge(limit, payloads, idles):
    """Return the number of the frame of each edge of a stream."""
    # The ones between frames have no edges.
    edges = [len(frame_gaps(limit, payload)) + 1 for payload in payloads]
    return [number for number, many in enumerate(edges) for _ in range(many)]


def untouched(limit, payloads, idles, edges):
    """Return the numbers of the frames none of whose edges are among some."""
    frames = frame_of_edge(limit, payloads, idles)
    touched = [frames[edge] for edge in edges if 0 <= edge < len(frames)]
    return [number for number in range(len(payloads)) if number not in touched]


def latest_start(limit, payloads, idles, hop, most):
    """Return the latest start with which the last edge is always detected by a time, or None."""
    _, greatest, jitter, poll, _ = hop
    # The last edge can be shifted, and come just behind a poll.
    last = zeros_of(stream_bits(limit, payloads, idles))[-1]
    start = most - last * greatest - jitter - (poll - 1)
    return start if start >= jitter else None
