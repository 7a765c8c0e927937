"""The report of a chain."""

from edgelink.chains import chain_fault
from edgelink.design import arrival, greatest_limit, weakest
from edgelink.relays import buffer_depth, least_delay
from edgelink.tolerance import is_safe


def report(chain):
    """Return the report of a chain, a text."""
    limit, payload_most, hops, delays = chain
    lines = [f"limit {limit}, payloads to {payload_most}"]
    for number, hop in enumerate(hops):
        lines.append(hop_line(limit, number, hop))
        if number < len(delays):
            lines.append(relay_line(chain, number))
    return "\n".join(lines + [last_line(chain)])


def hop_line(limit, number, hop):
    """Return the line of a hop."""
    state = "safe" if is_safe(limit, hop) else "not safe"
    margin, gap, side = weakest(limit, hop)
    most = greatest_limit(hop)
    limits = "no limit" if most is None else f"limits to {most}"
    return f"hop {number}: {state}, margin {margin} {side} at gap {gap}, {limits}"


def relay_line(chain, number):
    """Return the line of the relay behind a hop."""
    limit, payload_most, hops, delays = chain
    hop, later, delay = hops[number], hops[number + 1], delays[number]
    if not is_safe(limit, hop):
        return f"relay {number}: hop is not safe"
    needed = least_delay(limit, payload_most, hop, later)
    line = f"relay {number}: delay {delay}, needs {needed}"
    if delay < needed:
        return line
    return f"{line}, holds {buffer_depth(limit, payload_most, hop, later, delay)}"


def last_line(chain):
    """Return the line that tells the fault of a chain, or when the payload without bits arrives."""
    fault = chain_fault(chain)
    if fault is None:
        least, greatest = arrival(chain, "")
        return f"arrives from {least} to {greatest}"
    kind, number = fault
    return f"fault: {kind} {number}"
