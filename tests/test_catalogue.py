"""Points 39 and 40: the cheapest chains of a catalogue, and its frontier."""

import unittest
from itertools import product
from random import Random

from edgelink.catalogue import chain_of, cheapest, cheapest_of_limits, choices, frontier
from edgelink.chains import chain_fault
from edgelink.design import arrival
from edgelink.errors import Refused
from samples import LIMITS, told_safe

LINE = (80, 80, 0)
FAST = (75, 80, 0)
GOOD = (20, 4, 5)  # Safe for each line below and the limit 2.
FINE = (10, 8, 9)
POOR = (50, 3, 1)  # Safe for none.


def told_hop(line, entry):
    """Return the hop of a line and an entry."""
    return line[0], line[1], line[2], entry[0], entry[1]


def told_delay(limit, payload_most, hop, least):
    """Return the least delay before a line with this least bit time, as point 25 tells it."""
    _, greatest, jitter, poll, _ = hop
    s = payload_most + payload_most // limit
    return max([0] + [-(-(x * greatest + 2 * jitter) // poll) * poll - (x - limit - 1) * least
                      for x in [limit + 2, *range(2 * limit + 5, 2 * limit + 6 + s)]])


def told_choices(limit, lines, catalogue):
    """Return all lists of numbers with which all hops are safe, by trying all lists."""
    found = []
    for numbers in product(range(len(catalogue)), repeat=len(lines)):
        if all(told_safe(limit, told_hop(line, catalogue[number])) for line, number in zip(lines, numbers)):
            found.append(list(numbers))
    return found


def told_delays(limit, payload_most, lines, catalogue, numbers):
    """Return the least delays behind all hops but the last one."""
    hops = [told_hop(line, catalogue[number]) for line, number in zip(lines, numbers)]
    return [told_delay(limit, payload_most, hop, later[0]) for hop, later in zip(hops, lines[1:])]


def told_cheapest(limit, payload_most, lines, catalogue, price):
    """Return the cheapest chain, by trying all of them in their order."""
    best = None
    for numbers in told_choices(limit, lines, catalogue):
        delays = told_delays(limit, payload_most, lines, catalogue, numbers)
        cost = sum(catalogue[number][2] for number in numbers) + price * sum(delays)
        if best is None or cost < best[0]:
            best = (cost, numbers, delays)
    return best


def told_frontier(limit, payload_most, lines, catalogue):
    """Return the frontier, by comparing all pairs of chains."""
    chains = []
    for numbers in told_choices(limit, lines, catalogue):
        hops = tuple(told_hop(line, catalogue[number]) for line, number in zip(lines, numbers))
        delays = tuple(told_delays(limit, payload_most, lines, catalogue, numbers))
        cost = sum(catalogue[number][2] for number in numbers)
        chains.append((cost, arrival((limit, payload_most, hops, delays), "")[1], numbers))
    kept = []
    for one in chains:
        beaten = any(other[0] <= one[0] and other[1] <= one[1] and other[:2] != one[:2] for other in chains)
        first = all(other[2] >= one[2] for other in chains if other[:2] == one[:2])
        if first and not beaten:
            kept.append(one)
    return sorted(kept)


def some_lines(random, many):
    """Return lines that some receivers suit."""
    lines = []
    for _ in range(many):
        least = random.choice([60, 80, 80, 120, 160])
        lines.append((least, least + random.choice([0, 0, 1, 2]), random.choice([0, 0, 1, 3])))
    return tuple(lines)


def some_catalogue(random, lines):
    """Return entries, most of which suit some line."""
    entries = []
    for _ in range(random.randint(1, 6)):
        least = random.choice(lines)[0]
        polls_per_bit = random.choice([4, 5, 6, 8, 8, 10, 12, 15, 16, 20])
        poll = least // polls_per_bit + random.choice([0, 0, 0, 0, 0, 1, 5])
        entries.append((poll, polls_per_bit, random.choice([0, 1, 2, random.randint(0, 50)])))
    if random.random() < 0.3:
        entries = (entries + [random.choice(entries)])[-6:]
    return tuple(entries)


class ChoicesTest(unittest.TestCase):
    def test_ascending(self):
        self.assertEqual(choices(2, (LINE,), (GOOD, POOR, FINE)), [[0], [2]])
        self.assertEqual(choices(2, (LINE, FAST), (GOOD, POOR, FINE)), [[0, 0], [0, 2], [2, 0], [2, 2]])
        self.assertEqual(choices(2, (LINE, LINE, LINE), (POOR, GOOD)), [[1, 1, 1]])

    def test_none(self):
        self.assertEqual(choices(2, (LINE,), (POOR,)), [])
        self.assertEqual(choices(2, (LINE, (1000, 1000, 0)), (GOOD, FINE)), [])
        self.assertEqual(choices(2, ((1000, 1000, 0), LINE), (GOOD, FINE)), [])

    def test_limit_matters(self):
        self.assertEqual(choices(2, (FAST,), (GOOD,)), [[0]])
        self.assertEqual(choices(3, (FAST,), (GOOD,)), [])

    def test_against_trying_every_list(self):
        random = Random(39)
        found = set()
        for _ in range(150):
            limit, lines = random.choice(LIMITS), some_lines(random, random.randint(1, 4))
            catalogue = some_catalogue(random, lines)
            expected = told_choices(limit, lines, catalogue)
            self.assertEqual(choices(limit, lines, catalogue), expected)
            found.add(min(len(expected), 3))
        self.assertEqual(found, {0, 1, 2, 3})


class ChainOfTest(unittest.TestCase):
    def test_tuples_of_hops_and_delays(self):
        chain = chain_of(2, 2, (LINE, FAST), (GOOD, FINE), [0, 0])
        self.assertEqual(chain, (2, 2, ((80, 80, 0, 20, 4), (75, 80, 0, 20, 4)), (285,)))
        chain = chain_of(2, 2, (LINE, FAST, LINE), (GOOD, FINE), [1, 0, 1])
        self.assertEqual(chain[2], ((80, 80, 0, 10, 8), (75, 80, 0, 20, 4), (80, 80, 0, 10, 8)))
        self.assertEqual(chain[3], (285, 240))
        self.assertEqual(chain_of(7, 24, (LINE,), (FINE,), [0]), (7, 24, ((80, 80, 0, 10, 8),), ()))

    def test_least_delays(self):
        random = Random(25)
        for _ in range(100):
            limit, lines = random.choice(LIMITS), some_lines(random, random.randint(1, 4))
            catalogue = some_catalogue(random, lines)
            payload_most = random.randint(limit, 24)
            for numbers in told_choices(limit, lines, catalogue)[:20]:
                chain = chain_of(limit, payload_most, lines, catalogue, numbers)
                self.assertEqual(chain[:2], (limit, payload_most))
                self.assertEqual(chain[3], tuple(told_delays(limit, payload_most, lines, catalogue, numbers)))
                self.assertIsNone(chain_fault(chain))
                for number, delay in enumerate(chain[3]):
                    if delay > 0:
                        less = chain[3][:number] + (delay - 1,) + chain[3][number + 1:]
                        self.assertEqual(chain_fault(chain[:3] + (less,)), ("relay", number))

    def test_hop_that_is_not_safe(self):
        catalogue = (GOOD, POOR)
        for numbers in product(range(2), repeat=4):
            for many in range(1, 5):
                if 1 in numbers[:many]:
                    with self.assertRaises(Refused) as context:
                        chain_of(2, 2, (LINE, FAST, LINE, FAST)[:many], catalogue, list(numbers[:many]))
                    self.assertEqual(context.exception.what, f"hop {numbers.index(1)} is not safe")

    def test_last_hop_that_is_not_safe(self):
        with self.assertRaises(Refused) as context:
            chain_of(3, 3, (LINE, LINE, FAST), (GOOD,), [0, 0, 0])
        self.assertEqual(context.exception.what, "hop 2 is not safe")


class CheapestTest(unittest.TestCase):
    def test_without_a_price(self):
        self.assertEqual(cheapest(2, 2, (LINE, FAST), (GOOD, POOR, FINE), 0), (10, [0, 0], [285]))
        self.assertEqual(cheapest(2, 2, (LINE, FAST), (FINE, POOR, GOOD), 0), (10, [2, 2], [285]))
        self.assertEqual(cheapest(2, 2, (LINE,), (FINE, POOR, GOOD), 20), (5, [2], []))

    def test_price_of_delay(self):
        # The delay is 4 * 81, rounded up to a poll of 20, less 81; or 11 * 81, rounded up to one of 10, less 8 * 81.
        lines, catalogue = ((80, 81, 0), (81, 81, 0)), ((20, 4, 0), (10, 8, 9))
        self.assertEqual(cheapest(2, 2, lines, catalogue, 0), (0, [0, 0], [259]))
        self.assertEqual(cheapest(2, 2, lines, catalogue, 1), (259, [0, 0], [259]))
        self.assertEqual(cheapest(2, 2, lines, catalogue, 2), (9 + 2 * 252, [1, 0], [252]))

    def test_the_last_line_pays_no_delay(self):
        lines = ((80, 81, 0), (80, 81, 0))
        catalogue = ((20, 4, 0), (5, 16, 9))
        self.assertEqual(cheapest(2, 2, lines, catalogue, 20), (9 + 20 * 255, [1, 0], [255]))
        self.assertEqual(cheapest(2, 2, lines[:1], catalogue, 20), (0, [0], []))

    def test_several_of_the_same_cost(self):
        catalogue = (POOR, FINE, GOOD, (10, 8, 5), GOOD)
        self.assertEqual(cheapest(2, 2, (LINE, LINE, LINE), catalogue, 0), (15, [2, 2, 2], [240, 240]))
        catalogue = (GOOD, GOOD)
        self.assertEqual(cheapest(2, 2, (LINE, FAST), catalogue, 7), (10 + 7 * 285, [0, 0], [285]))

    def test_as_cheap_by_the_delay(self):
        # 7 less of delay at a price of 1 against 7 more for the entry.
        lines = ((80, 81, 0), (81, 81, 0))
        for catalogue, numbers in [(((20, 4, 0), (10, 8, 7)), [0, 0]), (((10, 8, 7), (20, 4, 0)), [0, 1])]:
            cost, found, _ = cheapest(2, 2, lines, catalogue, 1)
            self.assertEqual((cost, found), (259, numbers))

    def test_none(self):
        self.assertIsNone(cheapest(2, 2, (LINE,), (POOR,), 0))
        self.assertIsNone(cheapest(2, 2, (LINE, (1000, 1000, 0)), (GOOD, FINE), 5))
        self.assertIsNone(cheapest(2, 2, ((1000, 1000, 0), LINE), (GOOD, FINE), 5))
        self.assertIsNone(cheapest(3, 3, (FAST,), (GOOD,), 0))

    def test_against_trying_all_chains(self):
        random = Random(40)
        found = 0
        for _ in range(200):
            limit, lines = random.choice(LIMITS), some_lines(random, random.randint(1, 4))
            catalogue = some_catalogue(random, lines)
            payload_most, price = random.randint(limit, 24), random.choice([0, 1, 3, 20])
            expected = told_cheapest(limit, payload_most, lines, catalogue, price)
            self.assertEqual(cheapest(limit, payload_most, lines, catalogue, price), expected)
            found += expected is not None and len(lines) > 1
        self.assertGreater(found, 50)


class CheapestOfLimitsTest(unittest.TestCase):
    def test_least_limit_of_the_same_cost(self):
        self.assertEqual(cheapest_of_limits(7, (LINE,), (GOOD,), 0), (2, 5, [0], []))
        self.assertEqual(cheapest_of_limits(7, (LINE, LINE), (GOOD, POOR), 0), (2, 10, [0, 0], [240]))

    def test_a_greater_limit_is_cheaper(self):
        # The later line is so fast that fewer inserted zeros need less delay: 45 * 160 - 42 * 80 for the limit 2.
        lines, catalogue = ((160, 160, 0), (80, 80, 0)), ((20, 4, 1), (20, 8, 1))
        self.assertEqual(cheapest(2, 24, lines, catalogue, 1), (2 + 3840, [1, 0], [3840]))
        self.assertEqual(cheapest(3, 24, lines, catalogue, 1), (2 + 3760, [1, 0], [3760]))
        self.assertEqual(cheapest(4, 24, lines, catalogue, 1), (2 + 3840, [1, 0], [3840]))
        self.assertEqual(cheapest_of_limits(24, lines, catalogue, 1), (3, 2 + 3760, [1, 0], [3760]))
        self.assertEqual(cheapest_of_limits(24, lines, catalogue, 0), (2, 2, [1, 0], [3840]))

    def test_none(self):
        self.assertIsNone(cheapest_of_limits(7, (LINE,), (POOR,), 0))
        self.assertIsNone(cheapest_of_limits(24, (LINE, (1000, 1000, 0)), (GOOD,), 3))

    def test_only_some_limits(self):
        self.assertEqual(cheapest_of_limits(7, (FAST,), (GOOD,), 0), (2, 5, [0], []))

    def test_against_all_limits(self):
        random = Random(41)
        seen = set()
        for _ in range(150):
            lines = tuple(sorted(some_lines(random, random.randint(1, 3)), reverse=True))
            catalogue = some_catalogue(random, lines)
            payload_most, price = random.randint(7, 24), random.choice([0, 1, 20])
            found = [(limit, told_cheapest(limit, payload_most, lines, catalogue, price)) for limit in LIMITS]
            found = [(limit, *chain) for limit, chain in found if chain is not None]
            expected = min(found, key=lambda chain: (chain[1], chain[0]), default=None)
            self.assertEqual(cheapest_of_limits(payload_most, lines, catalogue, price), expected)
            seen.add(expected and expected[0])
        self.assertGreater(len(seen), 2)


class FrontierTest(unittest.TestCase):
    def test_one_chain(self):
        self.assertEqual(frontier(2, 2, (LINE,), (GOOD, POOR)), [(5, 2739, [0])])

    def test_dearer_and_earlier(self):
        self.assertEqual(frontier(2, 2, (LINE,), (FINE, GOOD)), [(5, 2739, [1]), (9, 2729, [0])])

    def test_dearer_and_not_earlier(self):
        self.assertEqual(frontier(2, 2, (LINE,), ((10, 8, 5), (20, 4, 6))), [(5, 2729, [0])])
        # As early, but dearer; as cheap, but later.
        self.assertEqual(frontier(2, 2, (LINE,), ((20, 4, 6), (20, 4, 5))), [(5, 2739, [1])])
        self.assertEqual(frontier(2, 2, (LINE,), ((20, 4, 5), (10, 8, 5))), [(5, 2729, [1])])

    def test_alike_in_both(self):
        self.assertEqual(frontier(2, 2, (LINE,), (POOR, GOOD, GOOD)), [(5, 2739, [1])])
        both = frontier(2, 2, (LINE, LINE), (GOOD, FINE))
        # One poll of 20 and one of 10, in any order, are alike.
        self.assertEqual(both, [(10, 2240 + 720 + 38, [0, 0]), (14, 2240 + 720 + 28, [0, 1]),
                                (18, 2240 + 720 + 18, [1, 1])])

    def test_none(self):
        self.assertEqual(frontier(2, 2, (LINE,), (POOR,)), [])
        self.assertEqual(frontier(2, 2, (LINE, (1000, 1000, 0)), (GOOD, FINE)), [])

    def test_against_all_pairs(self):
        random = Random(42)
        longest = 0
        for _ in range(120):
            limit, lines = random.choice(LIMITS), some_lines(random, random.randint(1, 3))
            catalogue = some_catalogue(random, lines)
            payload_most = random.randint(limit, 24)
            found = frontier(limit, payload_most, lines, catalogue)
            self.assertEqual(found, told_frontier(limit, payload_most, lines, catalogue))
            self.assertEqual(found, sorted(found))
            longest = max(longest, len(found))
        self.assertGreater(longest, 3)


if __name__ == "__main__":
    unittest.main()
