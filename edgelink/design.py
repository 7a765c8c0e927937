"""Which receivers and limits are safe, and when payloads arrive over a chain."""

from itertools import product

from edgelink.chains import chain_fault, least_delays
from edgelink.errors import Refused
from edgelink.frames import frame_bits
from edgelink.tolerance import START, is_safe, margins


def receivers_for(limit, least, greatest, jitter):
    """Return all receivers with which a hop with these bit times and this jitter is safe, ascending."""
    receivers = list(product(range(1, 51), range(3, 33)))
    return [receiver for receiver in receivers if is_safe(limit, (least, greatest, jitter, *receiver))]


def slowest_receiver(limit, least, greatest, jitter):
    """Return the one of these receivers with the greatest poll, then the fewest polls per bit, or None."""
    receivers = receivers_for(limit, least, greatest, jitter)
    return max(receivers, key=lambda receiver: (receiver[0], -receiver[1]), default=None)


def greatest_limit(hop):
    """Return the greatest limit for which a hop is safe, or None."""
    return max([limit for limit in range(2, 8) if is_safe(limit, hop)], default=None)


def weakest(limit, hop):
    """Return the least margin of a hop, its gap and its side."""
    found = []
    for gap, (early, late) in enumerate(margins(limit, hop), start=1):
        found += [(early, gap, "early"), (late, gap, "late")]
    # Of equal margins that of the least gap is less, and "early" is less than "late".
    return min(found)


def total_delay(limit, payload_most, hops):
    """Return the sum of the least delays of the relays between hops."""
    return sum(least_delays(limit, payload_most, hops))


def arrival(chain, payload):
    """Return the least and the greatest time at which the last edge of a payload's frame is detected."""
    if chain_fault(chain) is not None:
        raise Refused("chain has a fault")
    limit, _, hops, delays = chain
    jitters = sum([jitter for _, _, jitter, _, _ in hops])
    waits = sum([poll - 1 for _, _, _, poll, _ in hops])
    # Only the first edge is passed on as it is detected; the last hop's bit time alone tells how far the last one is.
    least, greatest, _, _, _ = hops[-1]
    bits = len(frame_bits(limit, payload)) - 1
    sent = START + sum(delays)
    return sent - jitters + bits * least, sent + jitters + waits + bits * greatest


def spread(chain, payload):
    """Return the difference of the greatest and the least time of arrival."""
    least, greatest = arrival(chain, payload)
    return greatest - least
