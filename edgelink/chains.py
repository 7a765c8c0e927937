"""Chains of hops with relays between them: their faults, and transmissions over them."""

from edgelink.errors import Refused
from edgelink.frames import frame_bits, frame_gaps, zeros_of
from edgelink.receivers import receive, received_gaps
from edgelink.relays import flag_ends, least_delay, needed_delay, relay_signal
from edgelink.signals import signal_of
from edgelink.tolerance import START, is_safe, misread_phase, misread_play, receiver_of


def least_delays(limit, payload_most, hops):
    """Return the least delays of the relays between hops."""
    for number, hop in enumerate(hops):
        if not is_safe(limit, hop):
            raise Refused(f"hop {number} is not safe")
    return [least_delay(limit, payload_most, hop, later) for hop, later in zip(hops, hops[1:])]


def chain_fault(chain):
    """Return the first fault of a chain, or None."""
    limit, payload_most, hops, delays = chain
    for number, hop in enumerate(hops):
        if not is_safe(limit, hop):
            return ("hop", number)
        if number < len(delays) and delays[number] < least_delay(limit, payload_most, hop, hops[number + 1]):
            return ("relay", number)
    return None


def transmit(chain, payload, plays):
    """Return the signals of a transmission, its first fault or None, and what is received."""
    limit, _, hops, _ = chain
    signals = chain_signals(chain, payload, plays)
    fault = transmission_fault(chain, payload, plays, signals)
    if len(signals) < len(hops):
        return signals, fault, None
    _, _, phase = plays[-1]
    return signals, fault, receive(limit, receiver_of(hops[-1]), phase, signals[-1])


def chain_signals(chain, payload, plays):
    """Return the signals of a transmission, up to a relay that sends nothing."""
    limit, _, hops, delays = chain
    bit_time, shifts, phase = plays[0]
    signals = [signal_of(frame_bits(limit, payload), START, bit_time, shifts)]
    for hop, delay, play in zip(hops, delays, plays[1:]):
        bit_time, shifts, next_phase = play
        signal = relay_signal(receiver_of(hop), phase, delay, bit_time, shifts, signals[-1])
        if signal is None:
            return signals
        signals.append(signal)
        phase = next_phase
    return signals


def transmission_fault(chain, payload, plays, signals):
    """Return the first fault of a transmission with these signals, or None."""
    limit, _, hops, _ = chain
    gaps = frame_gaps(limit, payload)
    for number, signal in enumerate(signals):
        _, _, phase = plays[number]
        if received_gaps(receiver_of(hops[number]), phase, signal) != gaps:
            return ("hop", number)
    # Only the relay behind the last signal can have sent nothing.
    return ("relay", len(signals) - 1) if len(signals) < len(hops) else None


def failure(chain):
    """Return the payload, the plays and the transmission that show the fault of a chain, or None."""
    fault = chain_fault(chain)
    if fault is None:
        return None
    kind, number = fault
    if kind == "hop":
        payload = ""
        plays = misread_plays(chain, number)
    else:
        place = late_place(chain, number)
        payload = late_payload(chain, place)
        plays = late_plays(chain, number, payload, place)
    return payload, plays, transmit(chain, payload, plays)


def plain_plays(hops):
    """Return the plays of hops that a failure does not name."""
    return [(hop[0], (), 0) for hop in hops]


def misread_plays(chain, number):
    """Return the plays with which a hop that is not safe misreads the frame of no bits."""
    limit, _, hops, _ = chain
    plays = plain_plays(hops)
    bit_time, shifts = misread_play(limit, hops[number])
    plays[number] = (bit_time, shifts, 0)
    # The signal of a hop does not depend on the hop's own phase.
    signal = chain_signals(chain, "", plays)[number]
    plays[number] = (bit_time, shifts, misread_phase(limit, hops[number], signal))
    return plays


def late_place(chain, number):
    """Return by how many bits behind the first edge a flag ends for which a relay's delay is too short."""
    limit, payload_most, hops, delays = chain
    hop, later = hops[number], hops[number + 1]
    places = flag_ends(limit, payload_most)
    return [place for place in places if needed_delay(limit, hop, later, place) > delays[number]][0]


def late_payload(chain, place):
    """Return a payload whose frame has the end of a flag so many bits behind its first edge."""
    limit, payload_most, _, _ = chain
    if place == limit + 2:
        return ""
    stuffed = place - 2 * limit - 5
    inserted = max(0, stuffed - payload_most)
    return "1" * (limit * inserted) + "0" * (stuffed - (limit + 1) * inserted)


def late_plays(chain, number, payload, place):
    """Return the plays with which a relay is late at the end of a flag."""
    limit, _, hops, _ = chain
    _, greatest, jitter, poll, _ = hops[number]
    shift_at = {0: -jitter, place: jitter}
    shifts = tuple([shift_at.get(zero, 0) for zero in zeros_of(frame_bits(limit, payload))])
    plays = plain_plays(hops)
    plays[number] = (greatest, shifts, 0)
    # The signal of a hop does not depend on the hop's own phase.
    signal = chain_signals(chain, payload, plays)[number]
    plays[number] = (greatest, shifts, signal[0] % poll)
    return plays
