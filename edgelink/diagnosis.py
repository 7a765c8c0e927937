"""Diagnoses: which edges were lost, and which gaps slipped, on the way from sent gaps to received ones."""

from edgelink.frames import distances, sums


def diagnosis(sent, received):
    """Return the cost, the lost pairs and the slips of the least diagnosis, or None if there is none."""
    more = len(sent) - len(received)
    if not received:
        # No edge is left, or one; pairs that begin as early as can be are the least.
        lost = tuple([(edge, edge + 1) for edge in range(0, len(sent), 2)])
    elif more >= 0 and more % 2 == 0:
        lost = least_lost(sums(sent), received, more // 2)
    else:
        return None
    slips = slips_between(left_gaps(sent, lost), received)
    return cost_of(lost, slips), lost, slips


def least_lost(places, received, many):
    """Return the least pairs of edges, so many, with which the gaps that are left slip least.

    An edge that is left is told by the number of pairs that are lost before it: each pair takes two edges away.
    """
    rest = least_rest(places, received, many)
    pairs = last_least(rest[0])
    left = [2 * pairs]
    for gap, bits in enumerate(received):
        # The sooner a pair is lost, the less are the pairs.
        pairs += last_least(costs_from(places, gap, pairs, bits, rest[gap + 1]))
        left.append(gap + 1 + 2 * pairs)
    gone = [edge for edge in range(len(places)) if edge not in left]
    return tuple(zip(gone[::2], gone[1::2]))


def least_rest(places, received, many):
    """Return how much the gaps from each one on slip at least, by how many pairs are lost before it."""
    rest = [[0] * (many + 1)]
    for gap in range(len(received) - 1, -1, -1):
        later = rest[-1]
        rest.append([min(costs_from(places, gap, pairs, received[gap], later)) for pairs in range(many + 1)])
    return rest[::-1]


def costs_from(places, gap, pairs, bits, later):
    """Return how much a gap and those behind it slip at least if 0, 1 or more further pairs are lost within it."""
    end = places[gap + 2 * pairs] + bits
    return [abs(places[gap + 1 + 2 * gone] - end) + later[gone] for gone in range(pairs, len(later))]


def last_least(costs):
    """Return the last place of the least cost."""
    return len(costs) - 1 - costs[::-1].index(min(costs))


def left_gaps(sent, lost):
    """Return the gaps between the edges that are left."""
    gone = [edge for pair in lost for edge in pair]
    return distances([place for edge, place in enumerate(sums(sent)) if edge not in gone])


def slips_between(gaps, received):
    """Return the number of each gap that is received as another one, with the bits that are read more."""
    ways = [bits - gap for gap, bits in zip(gaps, received)]
    return tuple([(number, way) for number, way in enumerate(ways) if way != 0])


def cost_of(lost, slips):
    """Return the number of lost pairs and the sizes of all slips together."""
    return len(lost) + sum([abs(way) for _, way in slips])


def is_diagnosis(sent, received, told):
    """Tell whether a cost, lost pairs and slips are a diagnosis, be it the least one or not."""
    cost, lost, slips = told
    if not are_pairs(lost, len(sent) + 1):
        return False
    gaps = left_gaps(sent, lost)
    # Which gaps slip, and by how much, follows from the pairs that are lost.
    return len(gaps) == len(received) and slips == slips_between(gaps, received) and cost == cost_of(lost, slips)


def are_pairs(lost, edges):
    """Tell whether pairs are ascending ones of neighbours among so many edges, no edge in two of them."""
    before = -1
    for one, other in lost:
        if one <= before or other != one + 1 or other >= edges:
            return False
        before = other
    return True


def after(sent, lost, slips):
    """Return the gaps that are received behind lost pairs and slips."""
    gaps = left_gaps(sent, lost)
    for gap, way in slips:
        gaps[gap] += way
    return gaps
