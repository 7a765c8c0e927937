"""Hops: by how much their clocks may differ, and their edges be shifted."""

from edgelink.frames import frame_bits, frame_gaps
from edgelink.receivers import ceiling, most_polls, receive
from edgelink.signals import signal_of

START = 2000


def receiver_of(hop):
    """Return the receiver of a hop."""
    _, _, _, poll, polls_per_bit = hop
    return poll, polls_per_bit


def margin(hop, gap):
    """Return the early and the late margin for a gap of so many bits."""
    least, greatest, jitter, poll, _ = hop
    receiver = receiver_of(hop)
    early = gap * least - 2 * jitter - poll - most_polls(receiver, gap - 1) * poll
    late = most_polls(receiver, gap) * poll - gap * greatest - 2 * jitter
    return early, late


def margins(limit, hop):
    """Return the margins for the gaps from 1 to the limit + 2."""
    return [margin(hop, gap) for gap in range(1, limit + 3)]


def is_safe(limit, hop):
    """Tell whether no margin for a gap from 1 to the limit + 2 is negative."""
    return all([min(pair) >= 0 for pair in margins(limit, hop)])


def safe_bit_times(limit, receiver, jitter):
    """Return the least and the greatest bit time that are safe, or None if none is."""
    poll, _ = receiver
    gaps = range(1, limit + 3)
    least = max([ceiling(most_polls(receiver, gap - 1) * poll + poll + 2 * jitter, gap) for gap in gaps])
    greatest = min([(most_polls(receiver, gap) * poll - 2 * jitter) // gap for gap in gaps])
    return (least, greatest) if least <= greatest else None


def greatest_jitter(limit, hop):
    """Return the greatest jitter with which a hop is safe, or None if it is not safe without."""
    least, greatest, _, poll, polls_per_bit = hop
    still = (least, greatest, 0, poll, polls_per_bit)
    weakest = min([min(pair) for pair in margins(limit, still)])
    # Each margin becomes less by twice the jitter.
    return weakest // 2 if weakest >= 0 else None


def longest_gap(hop):
    """Return the greatest number of bits up to which no margin is negative, or None if none ever is."""
    least, greatest, _, poll, polls_per_bit = hop
    bit = poll * polls_per_bit
    early, late = margin(hop, 1)
    if early < 0 or late < 0:
        return 0
    # With each further bit a margin becomes greater, or less, by always the same number.
    ends = []
    if least < bit:
        ends.append(1 + early // (bit - least))
    if greatest > bit:
        ends.append(1 + late // (greatest - bit))
    return min(ends, default=None)


def misreading(limit, hop):
    """Return the gap, bit time, shifts and phase of a frame that is misread, and what is received, or None."""
    if is_safe(limit, hop):
        return None
    gap = misread_gap(limit, hop)
    bit_time, shifts = misread_play(limit, hop)
    signal = signal_of(frame_bits(limit, ""), START, bit_time, shifts)
    phase = misread_phase(limit, hop, signal)
    return gap, bit_time, shifts, phase, receive(limit, receiver_of(hop), phase, signal)


def misread_gap(limit, hop):
    """Return the number of bits of the gap that the misreading of a hop is about."""
    return 1 if min(margin(hop, 1)) < 0 else limit + 2


def misread_edge(limit, hop):
    """Return the number of the edge at which this gap begins in the frame of no bits."""
    return frame_gaps(limit, "").index(misread_gap(limit, hop))


def is_read_early(limit, hop):
    """Tell whether the end of this gap can come too early, and not only too late."""
    early, _ = margin(hop, misread_gap(limit, hop))
    return early < 0


def misread_play(limit, hop):
    """Return the bit time and the shifts of the misreading of a hop."""
    least, greatest, jitter, _, _ = hop
    bit_time, shift = (least, jitter) if is_read_early(limit, hop) else (greatest, -jitter)
    edge = misread_edge(limit, hop)
    shifts = [0] * (len(frame_gaps(limit, "")) + 1)
    shifts[edge] = shift
    shifts[edge + 1] = -shift
    return bit_time, tuple(shifts)


def misread_phase(limit, hop, signal):
    """Return the phase of the misreading of a hop that has this signal of the frame of no bits."""
    _, _, _, poll, _ = hop
    time = signal[misread_edge(limit, hop)]
    # The gap's first edge is detected as late as can be, or at once.
    return (time + poll - 1) % poll if is_read_early(limit, hop) else time % poll
