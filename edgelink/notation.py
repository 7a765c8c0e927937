"""The text of a chain."""

from edgelink.errors import BadTrace
from edgelink.traces import last_line, read_number, rows_of

MOST_HOPS = 4


def read_chain(text):
    """Return the chain that a text tells."""
    rows = rows_of(text)
    if not rows:
        raise BadTrace(last_line(text), "head is expected")
    line, words = rows[0]
    limit, payload_most = read_head(line, words)
    hops = []
    delays = []
    for line, words in rows[1:]:
        if len(hops) == len(delays):
            hops.append(read_hop(line, words))
        else:
            delays.append(read_relay(line, words, len(hops)))
    if len(hops) == len(delays):
        raise BadTrace(last_line(text), "hop is expected")
    return limit, payload_most, tuple(hops), tuple(delays)


def read_head(line, words):
    """Return the limit and the greatest number of bits of a payload that the head tells."""
    if len(words) != 3 or words[0] != "chain":
        raise BadTrace(line, "head is expected")
    limit = read_number(line, words[1], 2, 7)
    return limit, read_number(line, words[2], limit, 24)


def read_hop(line, words):
    """Return the hop that a line tells."""
    if len(words) != 6 or words[0] != "hop":
        raise BadTrace(line, "hop is expected")
    least = read_number(line, words[1], 50, 2000)
    greatest = read_number(line, words[2], least, 2000)
    # Twice the jitter is less than the least bit time.
    jitter = read_number(line, words[3], 0, min(500, (least - 1) // 2))
    poll = read_number(line, words[4], 1, 50)
    return least, greatest, jitter, poll, read_number(line, words[5], 3, 32)


def read_relay(line, words, hops):
    """Return the delay that a line tells, of a relay behind so many hops."""
    if len(words) != 2 or words[0] != "relay":
        raise BadTrace(line, "relay is expected")
    delay = read_number(line, words[1], 0, 100000)
    if hops >= MOST_HOPS:
        raise BadTrace(line, "too many hops")
    return delay


def write_chain(chain):
    """Return the text of a chain, with one space between words and no empty lines."""
    limit, payload_most, hops, delays = chain
    lines = [f"chain {limit} {payload_most}"]
    for number, (least, greatest, jitter, poll, polls_per_bit) in enumerate(hops):
        if number > 0:
            lines.append(f"relay {delays[number - 1]}")
        lines.append(f"hop {least} {greatest} {jitter} {poll} {polls_per_bit}")
    return "\n".join(lines)
