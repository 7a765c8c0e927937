"""Point 42: diagnoses of received gaps."""

import unittest
from random import Random

from edgelink.diagnosis import after, diagnosis, is_diagnosis


def all_lost(edges, first=0):
    """Return all tuples of neighbouring pairs of edges, from a first edge on, no edge in two of them."""
    if first + 1 >= edges:
        return [()]
    return all_lost(edges, first + 1) + [((first, first + 1), *more) for more in all_lost(edges, first + 2)]


def told_gaps(sent, lost):
    """Return the gaps between the edges that are left."""
    left = [edge for edge in range(len(sent) + 1) if all(edge not in pair for pair in lost)]
    return [sum(sent[one:other]) for one, other in zip(left, left[1:])]


def all_diagnoses(sent, received):
    """Return all diagnoses, by going through all tuples of lost pairs, the least one first."""
    found = []
    for lost in all_lost(len(sent) + 1):
        gaps = told_gaps(sent, lost)
        if len(gaps) == len(received):
            ways = [more - gap for gap, more in zip(gaps, received)]
            slips = tuple((gap, way) for gap, way in enumerate(ways) if way)
            found.append((len(lost) + sum(abs(way) for way in ways), lost, slips))
    return sorted(found)


def least_of_many(sent, received):
    """Return the cost and the lost pairs of the least diagnosis, by going back from the last edge."""
    edges = len(sent) + 1
    best = {}
    for edge in reversed(range(edges)):
        for gap in range(len(received) + 1):
            ways = []
            if gap == len(received) and (edges - 1 - edge) % 2 == 0:
                ways.append(((edges - 1 - edge) // 2, tuple((one, one + 1) for one in range(edge + 1, edges, 2))))
            for later in range(edge + 1, edges, 2):
                if gap < len(received) and (later, gap + 1) in best:
                    cost, lost = best[later, gap + 1]
                    cost += (later - edge - 1) // 2 + abs(sum(sent[edge:later]) - received[gap])
                    ways.append((cost, tuple((one, one + 1) for one in range(edge + 1, later, 2)) + lost))
            if ways:
                best[edge, gap] = min(ways)
    begun = [(best[edge, 0], edge) for edge in range(0, edges, 2) if (edge, 0) in best]
    found = [(cost + edge // 2, tuple((one, one + 1) for one in range(0, edge, 2)) + lost)
             for (cost, lost), edge in begun]
    return min(found, default=None)


def some_gaps(random, many, least=1):
    """Return some gaps, many of them alike."""
    greatest = random.choice([2, 4, 9])
    return [random.randint(least, greatest) for _ in range(many)]


def some_loss(random, edges, share):
    """Return some lost pairs."""
    lost = []
    edge = 0
    while edge + 1 < edges:
        if random.random() < share:
            lost.append((edge, edge + 1))
            edge += 1
        edge += 1
    return tuple(lost)


class DiagnosisTest(unittest.TestCase):
    def told(self, sent, received, expected):
        self.assertEqual(diagnosis(sent, received), expected, (sent, received))
        if expected is not None:
            self.assertTrue(is_diagnosis(sent, received, expected), (sent, received))
            self.assertEqual(after(sent, expected[1], expected[2]), received)

    def test_nothing_happened(self):
        self.told([4, 1, 4], [4, 1, 4], (0, (), ()))
        self.told([4], [4], (0, (), ()))

    def test_slips(self):
        self.told([4, 1, 4], [4, 2, 4], (1, (), ((1, 1),)))
        self.told([4, 1, 4], [2, 1, 9], (7, (), ((0, -2), (2, 5))))
        self.told([4, 1, 4], [0, 0, 0], (9, (), ((0, -4), (1, -1), (2, -4))))

    def test_lost_pairs(self):
        # The edges 1 and 2 are lost: 4 + 1 + 4 bits are one gap.
        self.told([4, 1, 4], [9], (1, ((1, 2),), ()))
        self.told([4, 1, 2, 1, 4], [4, 4, 4], (1, ((2, 3),), ()))
        self.told([4, 1, 2, 1, 4], [12], (2, ((1, 2), (3, 4)), ()))
        # The first two edges, or the last two ones, are lost.
        self.told([4, 1, 3], [3], (1, ((0, 1),), ()))
        self.told([3, 1, 4], [3], (1, ((2, 3),), ()))

    def test_both(self):
        self.told([4, 1, 2, 1, 4], [4, 5, 4], (2, ((2, 3),), ((1, 1),)))
        self.told([4, 1, 4], [8], (2, ((1, 2),), ((0, -1),)))
        self.told([4, 1, 3], [5], (2, ((2, 3),), ((0, 1),)))

    def test_none(self):
        for sent, received in [([4, 1, 4], [4, 1]), ([4], [4, 1]), ([], [4]), ([4, 1], [5]), ([4, 1], [4, 1, 4, 1]),
                               ([4, 1, 4], [4, 1, 4, 1, 4]), ([1] * 8, [1])]:
            self.told(sent, received, None)

    def test_no_gaps_are_received(self):
        # Two edges: both are lost. Three edges: one is left.
        self.told([4], [], (1, ((0, 1),), ()))
        self.told([4, 1], [], (1, ((0, 1),), ()))
        self.told([4, 1, 4], [], (2, ((0, 1), (2, 3)), ()))
        self.told([4, 1, 4, 1], [], (2, ((0, 1), (2, 3)), ()))
        self.told([], [], (0, (), ()))

    def test_least_lost_of_the_same_cost(self):
        self.told([1, 1, 1], [1], (1, ((0, 1),), ()))
        self.told([1, 1, 1, 1, 1], [1, 1, 1], (1, ((0, 1),), ()))
        self.told([1, 1, 1, 1, 1], [1], (2, ((0, 1), (2, 3)), ()))
        self.told([2, 2, 2], [4], (3, ((0, 1),), ((0, 2),)))
        # Gaps of 7, 1 and 1 bits, or of 5, 3 and 1 bits, are left: two slips of one bit.
        self.told([5, 1, 1, 1, 1], [6, 2, 1], (3, ((1, 2),), ((0, -1), (1, 1))))
        # The first two edges, or the next two, or the next two: each costs 3.
        self.told([1, 1, 1, 1, 1], [2, 2, 1], (3, ((0, 1),), ((0, 1), (1, 1))))

    def test_kinds(self):
        cost, lost, slips = diagnosis([4, 1, 2, 1, 4], [4, 5, 4])
        self.assertEqual([type(part) for part in (cost, lost, slips, lost[0], slips[0])], [int] + [tuple] * 4)

    def test_against_all_tuples_of_lost_pairs(self):
        random = Random(42)
        for many in range(10):
            for _ in range(60):
                sent = some_gaps(random, many)
                for length in (many, many - 2, many - 4, many - 6, many - 8, 0, random.randint(0, 9)):
                    if length >= 0:
                        received = some_gaps(random, length, least=0)
                        self.told(sent, received, (all_diagnoses(sent, received) or [None])[0])

    def test_against_all_tuples_behind_few_faults(self):
        random = Random(43)
        for _ in range(500):
            sent = some_gaps(random, random.randint(0, 9))
            received = told_gaps(sent, some_loss(random, len(sent) + 1, random.choice([0.1, 0.3, 0.6])))
            for place in range(len(received)):
                if random.random() < 0.2:
                    received[place] = max(0, received[place] + random.choice([-2, -1, 1, 2]))
            self.told(sent, received, all_diagnoses(sent, received)[0])

    def test_some_tens_of_gaps(self):
        random = Random(44)
        for many in (20, 31, 40):
            for share in (0.05, 0.2, 0.5):
                sent = some_gaps(random, many)
                received = told_gaps(sent, some_loss(random, many + 1, share))
                received = [max(0, gap + random.choice([0, 0, 0, -1, 1])) for gap in received]
                cost, lost, _ = diagnosis(sent, received)
                self.assertEqual((cost, lost), least_of_many(sent, received))
                self.assertTrue(is_diagnosis(sent, received, diagnosis(sent, received)))

    def test_256_gaps(self):
        random = Random(45)
        for share in (0, 0.05, 0.2, 0.5, 1):
            sent = some_gaps(random, 256)
            lost = some_loss(random, 257, share)
            received = told_gaps(sent, lost)
            for place in range(0, len(received), 40):
                received[place] += 1
            found = diagnosis(sent, received)
            self.assertTrue(is_diagnosis(sent, received, found))
            self.assertLessEqual(found[0], len(lost) + len(range(0, len(received), 40)))
            self.assertEqual(after(sent, found[1], found[2]), received)
        self.told([3] * 256, [3] * 256, (0, (), ()))
        self.told([3] * 256, [], (128, tuple((edge, edge + 1) for edge in range(0, 256, 2)), ()))
        self.told([3] * 255, [], (128, tuple((edge, edge + 1) for edge in range(0, 256, 2)), ()))
        self.told([3] * 256, [3] * 86, (85, tuple((edge, edge + 1) for edge in range(0, 170, 2)), ()))


class IsDiagnosisTest(unittest.TestCase):
    SENT = [4, 1, 2, 1, 4]
    RECEIVED = [4, 5, 4]
    TOLD = (2, ((2, 3),), ((1, 1),))

    def no(self, cost, lost, slips, sent=None, received=None):
        told = (cost, lost, slips)
        self.assertIs(is_diagnosis(sent or self.SENT, received or self.RECEIVED, told), False, told)

    def test_yes(self):
        self.assertIs(is_diagnosis(self.SENT, self.RECEIVED, self.TOLD), True)

    def test_one_that_is_not_the_least(self):
        self.assertIs(is_diagnosis([1, 1, 1], [1], (1, ((2, 3),), ())), True)
        self.assertIs(is_diagnosis([1, 1, 1], [1], (3, ((1, 2),), ((0, -2),))), True)
        self.assertIs(is_diagnosis([1, 1], [], (1, ((1, 2),), ())), True)
        self.assertIs(is_diagnosis(self.SENT, self.RECEIVED, (7, ((0, 1),), ((0, 2), (1, 4)))), True)

    def test_other_cost(self):
        for cost in (1, 3, 0, -2):
            self.no(cost, ((2, 3),), ((1, 1),))

    def test_other_pairs(self):
        self.no(2, ((1, 2),), ((1, 1),))
        self.no(2, (), ((1, 1),))
        self.no(1, (), ((1, 1),))
        self.no(3, ((1, 2), (3, 4)), ((1, 1),))

    def test_pairs_that_are_none(self):
        for pair in ((2, 4), (3, 2), (2, 2), (2, 1)):
            self.no(2, (pair,), ((1, 1),))

    def test_edges_that_there_are_not(self):
        self.no(1, ((-1, 0),), (), [4, 1, 4], [4])
        self.no(1, ((3, 4),), (), [4, 1, 4], [4])
        self.no(1, ((4, 5),), (), [4, 1, 4], [4])
        self.no(1, ((-2, -1),), (), [4, 1, 4], [4])
        self.no(2, ((-1, 0),), ((0, 1),), [4, 1, 4], [5])
        # As if one edge alone were lost.
        self.no(1, ((-1, 0),), (), [4, 1], [1])
        self.no(1, ((2, 3),), (), [4, 1], [4])
        # The last pair that there is.
        self.assertIs(is_diagnosis([4, 1, 4], [4], (1, ((2, 3),), ())), True)
        self.assertIs(is_diagnosis([4, 1, 4], [4], (1, ((0, 1),), ())), True)

    def test_pairs_that_share_an_edge(self):
        sent, received = [4, 1, 2, 1, 4], [12]
        self.assertIs(is_diagnosis(sent, received, (2, ((1, 2), (3, 4)), ())), True)
        self.no(2, ((1, 2), (2, 3)), (), sent, received)
        self.no(2, ((1, 2), (1, 2)), (), sent, received)
        self.no(3, ((1, 2), (2, 3), (3, 4)), (), sent, received)
        # As if the edge 2 were lost once: three edges are left of six.
        self.no(2, ((1, 2), (2, 3)), (), sent, [7, 5])
        self.no(2, ((1, 2), (2, 3)), (), sent, [8, 4])

    def test_order_of_the_pairs(self):
        self.no(2, ((3, 4), (1, 2)), (), [4, 1, 2, 1, 4], [12])

    def test_other_slips(self):
        for slips in ((), ((1, 2),), ((1, -1),), ((0, 1),), ((2, 1),), ((0, 1), (1, 1)), ((1, 1), (2, 1))):
            for cost in range(5):
                self.no(cost, ((2, 3),), slips)

    def test_slip_of_0(self):
        self.no(2, ((2, 3),), ((0, 0), (1, 1)))
        self.no(2, ((2, 3),), ((1, 1), (2, 0)))
        self.no(0, (), ((0, 0),), [4, 1, 4], [4, 1, 4])

    def test_slip_of_a_gap_that_there_is_not(self):
        self.no(3, ((2, 3),), ((1, 1), (3, 1)))
        self.no(3, ((2, 3),), ((-1, 1), (1, 1)))
        self.no(2, ((2, 3),), ((-2, 1),))
        self.no(2, ((2, 3),), ((1, 1), (3, 0)))

    def test_order_of_the_slips(self):
        sent, received = [4, 1, 4], [5, 1, 6]
        self.assertIs(is_diagnosis(sent, received, (3, (), ((0, 1), (2, 2)))), True)
        self.no(3, (), ((2, 2), (0, 1)), sent, received)
        self.no(3, (), ((0, 1), (2, 1), (2, 1)), sent, received)

    def test_other_number_of_gaps(self):
        self.no(0, (), (), [4, 1, 4], [4, 1])
        self.no(0, (), (), [4, 1, 4], [4, 1, 4, 1])
        self.assertIs(is_diagnosis([4, 1, 4], [], (0, (), ())), False)
        self.assertIs(is_diagnosis([4], [], (0, (), ())), False)
        self.assertIs(is_diagnosis([], [], (0, (), ())), True)
        self.assertIs(is_diagnosis([4], [], (1, ((0, 1),), ())), True)

    def test_against_all_diagnoses(self):
        random = Random(46)
        for _ in range(200):
            sent = some_gaps(random, random.randint(0, 7))
            received = some_gaps(random, max(0, len(sent) - random.choice([0, 2, 4])), least=0)
            right = all_diagnoses(sent, received)
            for cost, lost, slips in right:
                self.assertIs(is_diagnosis(sent, received, (cost, lost, slips)), True)
                changed = random.choice([(cost + 1, lost, slips), (cost, lost[1:], slips), (cost, lost, slips[1:]),
                                         (cost, lost, slips + ((len(received), 1),))])
                self.assertIs(is_diagnosis(sent, received, changed), changed in right)


class AfterTest(unittest.TestCase):
    def test_some(self):
        self.assertEqual(after([4, 1, 4], (), ()), [4, 1, 4])
        self.assertEqual(after([4, 1, 4], ((1, 2),), ()), [9])
        self.assertEqual(after([4, 1, 4], ((1, 2),), ((0, -3),)), [6])
        self.assertEqual(after([4, 1, 2, 1, 4], ((2, 3),), ((0, 2), (2, -4))), [6, 4, 0])

    def test_no_gaps(self):
        self.assertEqual(after([4], ((0, 1),), ()), [])
        self.assertEqual(after([4, 1], ((1, 2),), ()), [])
        self.assertEqual(after([], (), ()), [])

    def test_against_all_diagnoses(self):
        random = Random(47)
        for _ in range(100):
            sent = some_gaps(random, random.randint(0, 8))
            received = some_gaps(random, max(0, len(sent) - random.choice([0, 2, 4, 6])), least=0)
            for _, lost, slips in all_diagnoses(sent, received):
                self.assertEqual(after(sent, lost, slips), received)

    def test_a_new_list(self):
        sent = [4, 1, 4]
        after(sent, (), ()).append(5)
        self.assertEqual(after(sent, (), ((0, 1),)), [5, 1, 4])
        self.assertEqual(sent, [4, 1, 4])


if __name__ == "__main__":
    unittest.main()
