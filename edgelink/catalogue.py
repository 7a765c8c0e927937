"""Catalogues of receivers: the chains that are cheap, and those that are fast."""

from edgelink.chains import least_delays
from edgelink.design import arrival
from edgelink.relays import least_delay
from edgelink.tolerance import is_safe


def hop_of(line, entry):
    """Return the hop of a line with the receiver of an entry."""
    least, greatest, jitter = line
    poll, polls_per_bit, _ = entry
    return least, greatest, jitter, poll, polls_per_bit


def safe_numbers(limit, line, catalogue):
    """Return the numbers of the entries with which the hop of a line is safe."""
    return [number for number, entry in enumerate(catalogue) if is_safe(limit, hop_of(line, entry))]


def choices(limit, lines, catalogue):
    """Return all lists of numbers of entries with which all hops are safe, ascending."""
    found = [[]]
    for line in lines:
        safe = safe_numbers(limit, line, catalogue)
        found = [numbers + [number] for numbers in found for number in safe]
    return found


def chain_of(limit, payload_most, lines, catalogue, numbers):
    """Return the chain with these entries and the least delays."""
    hops = [hop_of(line, catalogue[number]) for line, number in zip(lines, numbers)]
    return limit, payload_most, tuple(hops), tuple(least_delays(limit, payload_most, hops))


def cheapest(limit, payload_most, lines, catalogue, price):
    """Return the cost, the numbers of the entries and the delays of the cheapest chain, or None."""
    # What an entry costs at a line does not depend on the entries at the others.
    offers = [line_offers(limit, payload_most, lines, place, catalogue, price) for place in range(len(lines))]
    if [] in offers:
        return None
    best = [min(offer) for offer in offers]
    cost = sum([part for part, _, _ in best])
    return cost, [number for _, number, _ in best], [delay for _, _, delay in best[:-1]]


def line_offers(limit, payload_most, lines, place, catalogue, price):
    """Return the cost, the number and the delay of each entry with which the hop of a line is safe."""
    found = []
    for number in safe_numbers(limit, lines[place], catalogue):
        delay = delay_behind(limit, payload_most, lines, place, catalogue[number])
        _, _, cost = catalogue[number]
        found.append((cost + price * delay, number, delay))
    return found


def delay_behind(limit, payload_most, lines, place, entry):
    """Return the least delay of the relay behind the hop of a line, 0 behind the last one."""
    if place == len(lines) - 1:
        return 0
    # Of the later hop only the bit times matter, so any receiver is good.
    later = hop_of(lines[place + 1], entry)
    return least_delay(limit, payload_most, hop_of(lines[place], entry), later)


def cheapest_of_limits(payload_most, lines, catalogue, price):
    """Return the limit, the cost, the numbers and the delays of the cheapest chain of all limits, or None."""
    found = []
    for limit in range(2, 8):
        chain = cheapest(limit, payload_most, lines, catalogue, price)
        if chain is not None:
            found.append((limit, *chain))
    # Of several the first one, with the least limit, is taken.
    return min(found, key=lambda row: row[1], default=None)


def frontier(limit, payload_most, lines, catalogue):
    """Return the cost, the latest arrival and the numbers of the chains that no other one beats, by cost."""
    kept = []
    for cost, latest, numbers in sorted(costs_and_arrivals(limit, payload_most, lines, catalogue)):
        # All chains that come before are as cheap, so only an earlier arrival is not beaten.
        if not kept or latest < kept[-1][1]:
            kept.append((cost, latest, numbers))
    return kept


def costs_and_arrivals(limit, payload_most, lines, catalogue):
    """Return the cost, the latest arrival of no bits, and the numbers of all chains."""
    found = []
    for numbers in choices(limit, lines, catalogue):
        chain = chain_of(limit, payload_most, lines, catalogue, numbers)
        _, latest = arrival(chain, "")
        cost = sum([catalogue[number][2] for number in numbers])
        found.append((cost, latest, numbers))
    return found
