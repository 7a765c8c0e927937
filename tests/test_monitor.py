"""Points 4 and 43: monitors."""

import unittest
from random import Random

from edgelink.errors import Refused
from edgelink.frames import frame_bits
from edgelink.monitor import Monitor, opened
from edgelink.receivers import receive, received_gaps
from edgelink.signals import signal_of
from edgelink.streams import stream_signal

RECEIVER = (20, 4)
FRAME = signal_of(frame_bits(2, "0110"), 2000, 80, ())  # 7 edges.
TWO = stream_signal(2, ["01", "1"], (2,), 2000, 80, ())


def filled(edges):
    """Return a monitor with edges."""
    monitor = Monitor(2, RECEIVER, 5)
    for time in edges:
        monitor.edge(time)
    return monitor


def all_told(monitor):
    """Return everything that a monitor tells."""
    return (monitor.edge_count(), monitor.edges(), monitor.gaps(), monitor.payloads(), monitor.history(),
            monitor.state())


class MonitorTest(unittest.TestCase):
    def refused(self, what, monitor, *called):
        """Tell that a call is refused, and leaves the monitor as it was."""
        before = all_told(monitor)
        with self.assertRaises(Refused) as context:
            getattr(monitor, called[0])(*called[1:])
        self.assertEqual(context.exception.what, what)
        self.assertEqual(all_told(monitor), before)

    def told(self, monitor, edges):
        """Tell that a monitor has these edges, and tells of them what it must."""
        limit, receiver, phase, _ = monitor.state()
        history = [(time, len(receive(limit, receiver, phase, edges[:place + 1]))) for place, time in enumerate(edges)]
        self.assertEqual(monitor.edge_count(), len(edges))
        self.assertEqual(monitor.edges(), edges)
        self.assertEqual(monitor.gaps(), received_gaps(receiver, phase, edges))
        self.assertEqual(monitor.payloads(), receive(limit, receiver, phase, edges))
        self.assertEqual(monitor.history(), history)
        self.assertEqual(monitor.state(), (limit, receiver, phase, tuple(edges)))

    def test_without_edges(self):
        monitor = Monitor(3, (10, 8), 7)
        self.assertEqual(all_told(monitor), (0, [], [], [], [], (3, (10, 8), 7, ())))

    def test_edges_one_by_one(self):
        monitor = Monitor(2, RECEIVER, 5)
        self.assertEqual([monitor.edge(time) for time in FRAME], [0, 0, 0, 0, 0, 0, 1])
        self.told(monitor, FRAME)
        self.assertEqual(monitor.gaps(), [4, 1, 3, 1, 1, 4])
        self.assertEqual(monitor.payloads(), ["0110"])
        self.assertEqual(monitor.history(), list(zip(FRAME, [0, 0, 0, 0, 0, 0, 1])))

    def test_the_limit_the_receiver_and_the_phase_matter(self):
        for limit, receiver, phase in [(3, RECEIVER, 5), (2, (10, 8), 5), (2, (20, 5), 5), (2, (20, 4), 19),
                                       (7, (1, 3), 0)]:
            monitor = Monitor(limit, receiver, phase)
            self.assertEqual(monitor.feed(TWO), len(TWO))
            self.told(monitor, TWO)
            self.assertEqual(monitor.state()[:3], (limit, receiver, phase))

    def test_edge_of_two_payloads(self):
        monitor = filled(FRAME[:-1])
        self.assertEqual(monitor.edge(FRAME[-1]), 1)
        # The flag is also the first one of another frame: gaps of 1 and 4 bits.
        self.assertEqual(monitor.edge(FRAME[-1] + 80), 1)
        self.assertEqual(monitor.edge(FRAME[-1] + 400), 2)
        self.assertEqual(monitor.payloads(), ["0110", ""])

    def test_an_edge_can_take_a_payload_away(self):
        # Two edges between two polls are not detected.
        monitor = filled(FRAME)
        self.assertEqual(monitor.edge(FRAME[-1] + 1), 0)
        self.assertEqual(monitor.history()[-2:], [(FRAME[-1], 1), (FRAME[-1] + 1, 0)])
        self.assertEqual(monitor.undo(), FRAME[-1] + 1)
        self.assertEqual(monitor.payloads(), ["0110"])

    def test_edge_that_is_not_later(self):
        monitor = filled([0, 7])
        self.refused("edge is not later", monitor, "edge", 7)
        self.refused("edge is not later", monitor, "edge", 6)
        self.refused("edge is not later", monitor, "edge", 0)
        self.assertEqual(monitor.edge(8), 0)
        self.told(monitor, [0, 7, 8])

    def test_first_and_last_time(self):
        monitor = Monitor(2, RECEIVER, 0)
        self.assertEqual(monitor.edge(0), 0)
        self.refused("edge is not later", monitor, "edge", 0)
        self.assertEqual(monitor.edge(1000000), 0)
        self.told(monitor, [0, 1000000])

    def test_257th_edge(self):
        monitor = Monitor(2, RECEIVER, 0)
        self.assertEqual(monitor.feed(list(range(0, 20 * 255, 20))), 255)
        self.assertEqual(monitor.edge(10000), len(monitor.payloads()))
        self.assertEqual(monitor.edge_count(), 256)
        self.refused("too many edges", monitor, "edge", 10001)
        # This comes first.
        self.refused("too many edges", monitor, "edge", 10000)
        self.refused("too many edges", monitor, "edge", 0)
        self.assertEqual(monitor.feed([20000]), 0)
        self.assertEqual(monitor.undo(), 10000)
        self.assertEqual(monitor.edge(10001), len(monitor.payloads()))

    def test_undo(self):
        monitor = filled(FRAME)
        for many in range(len(FRAME), 0, -1):
            self.assertEqual(monitor.undo(), FRAME[many - 1])
            self.told(monitor, FRAME[:many - 1])
        self.refused("there are no edges", monitor, "undo")
        self.assertEqual(monitor.edge(0), 0)
        self.assertEqual(monitor.undo(), 0)
        self.refused("there are no edges", monitor, "undo")

    def test_edge_behind_undo(self):
        monitor = filled([5, 9])
        monitor.undo()
        self.refused("edge is not later", monitor, "edge", 5)
        self.assertEqual(monitor.edge(6), 0)
        self.told(monitor, [5, 6])


class FeedTest(unittest.TestCase):
    def test_all(self):
        monitor = Monitor(2, RECEIVER, 5)
        self.assertEqual(monitor.feed(FRAME), len(FRAME))
        self.assertEqual(all_told(monitor), all_told(filled(FRAME)))
        self.assertEqual(monitor.feed([]), 0)
        self.assertEqual(monitor.edge_count(), len(FRAME))

    def test_stops_at_the_first_one_that_would_raise(self):
        monitor = Monitor(2, RECEIVER, 5)
        self.assertEqual(monitor.feed([3, 5, 5, 9, 12]), 2)
        self.assertEqual(monitor.edges(), [3, 5])
        self.assertEqual(monitor.feed([5, 9]), 0)
        self.assertEqual(monitor.edges(), [3, 5])
        self.assertEqual(monitor.feed([6, 4, 7]), 1)
        self.assertEqual(monitor.edges(), [3, 5, 6])

    def test_stops_at_the_257th_edge(self):
        monitor = Monitor(2, RECEIVER, 5)
        self.assertEqual(monitor.feed(list(range(300))), 256)
        self.assertEqual(monitor.edges(), list(range(256)))
        self.assertEqual(monitor.feed([1000]), 0)
        monitor.undo()
        self.assertEqual(monitor.feed([1000, 1001]), 1)
        self.assertEqual(monitor.edges()[-1], 1000)


class OpenedTest(unittest.TestCase):
    def test_a_monitor_with_the_state(self):
        for edges in ([], [7], FRAME, TWO, list(range(256))):
            monitor = opened((2, RECEIVER, 5, tuple(edges)))
            self.assertIsInstance(monitor, Monitor)
            self.assertEqual(all_told(monitor), all_told(opened(monitor.state())))
            self.assertEqual(monitor.state(), (2, RECEIVER, 5, tuple(edges)))
            self.assertEqual(monitor.edges(), edges)
        self.assertIs(type(monitor.state()[3]), tuple)

    def test_what_is_done_to_one_does_not_change_the_other(self):
        one = filled(FRAME)
        state = one.state()
        other, third = opened(state), opened(state)
        one.undo()
        other.edge(FRAME[-1] + 80)
        self.assertEqual(one.edges(), FRAME[:-1])
        self.assertEqual(other.edges(), FRAME + [FRAME[-1] + 80])
        self.assertEqual(third.edges(), FRAME)
        self.assertEqual(state, (2, RECEIVER, 5, tuple(FRAME)))

    def test_errors_of_an_opened_monitor(self):
        for state, time, what in [((2, RECEIVER, 5, (8,)), 8, "edge is not later"),
                                  ((2, RECEIVER, 5, tuple(range(256))), 999, "too many edges")]:
            with self.assertRaises(Refused) as context:
                opened(state).edge(time)
            self.assertEqual(context.exception.what, what)
        with self.assertRaises(Refused) as context:
            opened((2, RECEIVER, 5, ())).undo()
        self.assertEqual(context.exception.what, "there are no edges")


class SharedTest(unittest.TestCase):
    def test_lists_that_are_returned(self):
        monitor = filled(TWO)
        before = all_told(monitor)
        for returned in (monitor.edges(), monitor.gaps(), monitor.payloads(), monitor.history()):
            returned.append("more")
            returned[:1] = []
            self.assertEqual(all_told(monitor), before)

    def test_lists_that_are_passed(self):
        monitor = Monitor(2, RECEIVER, 5)
        times = list(TWO)
        monitor.feed(times)
        self.assertEqual(times, TWO)
        before = all_told(monitor)
        times[0] = 7
        times.append(9)
        self.assertEqual(all_told(monitor), before)
        monitor.feed(monitor.edges())
        self.assertEqual(all_told(monitor), before)

    def test_monitors_share_nothing(self):
        one, other = Monitor(2, RECEIVER, 5), Monitor(2, RECEIVER, 5)
        one.edge(7)
        self.assertEqual((one.edges(), other.edges()), ([7], []))

    def test_some_deeds(self):
        random = Random(43)
        for _ in range(30):
            limit, poll = random.randint(2, 4), random.randint(1, 30)
            monitor = Monitor(limit, (poll, random.randint(3, 6)), random.randrange(poll))
            edges = []
            for _ in range(60):
                last = edges[-1] if edges else 0
                deed = random.choice(["edge", "edge", "feed", "undo", "opened"])
                times = [last + random.choice([1, 80, 80, 240, 320])]
                while len(times) < 4:
                    times.append(max(0, times[-1] + random.choice([0, -1, 1, 80, 80, 240])))
                if random.random() < 0.3:
                    times[0] = max(0, last - random.choice([0, 1, 100]))
                if deed == "edge" and (not edges or times[0] > last):
                    edges.append(times[0])
                    self.assertEqual(monitor.edge(times[0]), len(monitor.payloads()))
                elif deed == "edge":
                    self.assertRaises(Refused, monitor.edge, times[0])
                elif deed == "feed":
                    many = 0
                    while many < len(times) and (not edges or times[many] > edges[-1]):
                        edges.append(times[many])
                        many += 1
                    self.assertEqual(monitor.feed(times), many)
                elif deed == "undo" and edges:
                    self.assertEqual(monitor.undo(), edges.pop())
                elif deed == "opened":
                    monitor = opened(monitor.state())
                MonitorTest.told(self, monitor, edges)


if __name__ == "__main__":
    unittest.main()
