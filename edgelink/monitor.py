"""Monitors: they record the edges of a signal, and tell what a receiver receives from them."""

from edgelink.errors import Refused
from edgelink.receivers import receive, received_gaps
from edgelink.traces import MOST_EDGES


class Monitor:
    """A limit, a receiver, a phase, and the edges that have been recorded."""

    def __init__(self, limit, receiver, phase):
        self.limit = limit
        self.receiver = receiver
        self.phase = phase
        self.signal = []

    def edge_count(self):
        """Return the number of edges."""
        return len(self.signal)

    def edge(self, time):
        """Record an edge; return the number of payloads then."""
        what = self.refusal(time)
        if what is not None:
            raise Refused(what)
        self.signal.append(time)
        return len(self.payloads())

    def refusal(self, time):
        """Return why an edge at a time cannot be recorded, or None if it can."""
        if len(self.signal) >= MOST_EDGES:
            return "too many edges"
        if self.signal and time <= self.signal[-1]:
            return "edge is not later"
        return None

    def feed(self, times):
        """Record edges up to the first one that cannot be recorded; return how many were."""
        recorded = 0
        for time in times:
            if self.refusal(time) is not None:
                break
            self.signal.append(time)
            recorded += 1
        return recorded

    def undo(self):
        """Remove the last edge; return its time."""
        if not self.signal:
            raise Refused("there are no edges")
        return self.signal.pop()

    def edges(self):
        """Return the times of all edges."""
        return list(self.signal)

    def gaps(self):
        """Return the gaps that the receiver receives."""
        return received_gaps(self.receiver, self.phase, self.signal)

    def payloads(self):
        """Return the payloads that the receiver receives."""
        return self.payloads_of_first(len(self.signal))

    def payloads_of_first(self, many):
        """Return the payloads that the receiver receives from so many edges, the first ones."""
        return receive(self.limit, self.receiver, self.phase, self.signal[:many])

    def history(self):
        """Return the time of each edge, and the number of payloads from the edges up to it."""
        return [(time, len(self.payloads_of_first(many))) for many, time in enumerate(self.signal, start=1)]

    def state(self):
        """Return the limit, the receiver, the phase and the edges."""
        return self.limit, self.receiver, self.phase, tuple(self.signal)


def opened(state):
    """Return a new monitor with a state."""
    limit, receiver, phase, edges = state
    monitor = Monitor(limit, receiver, phase)
    monitor.signal = list(edges)
    return monitor
