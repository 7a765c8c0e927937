"""Posts: talks whose payloads go through chains."""

from edgelink.chains import transmit
from edgelink.checks import pack
from edgelink.errors import Refused
from edgelink.talks import BACK, THERE, Talk, copied


class Post:
    """A talk with a chain there and a chain back in the place of lines."""

    def __init__(self, window, generator, there, back):
        _, payload_most, _, _ = back
        if len(pack(generator, [0])) > payload_most:
            raise Refused("answers are too long")
        self.talk = Talk(window, generator)
        self.chains = {THERE: there, BACK: back}

    def room(self):
        """Return how many bytes a letter has at most, perhaps less than 0."""
        _, payload_most, _, _ = self.chains[THERE]
        checks = len(pack(self.talk.generator, []))
        # One byte tells the letter's number.
        return (payload_most - checks) // 8 - 1

    def queue(self, letter):
        """Put a letter at the end of the queue."""
        if len(letter) > self.room():
            raise Refused("letter is too long")
        self.talk.queue(letter)

    def send(self):
        """Let the payloads of all letters of the window wait before the chain there; return how many these are."""
        return self.talk.send()

    def line(self, way):
        """Return the payloads that wait before a chain."""
        return self.talk.line(way)

    def taken(self):
        """Return the letters that were taken."""
        return self.talk.taken()

    def known(self):
        """Return the number of letters that are known to be taken."""
        return self.talk.known()

    def deliver(self, way, plays):
        """Transmit the first payload that waits, and let be heard what is received; return its fault and that."""
        payload = self.talk.carried(way, 0)
        _, fault, received = transmit(self.chains[way], payload, plays)
        payloads = [] if received is None else received
        self.talk.lose(way, 0)
        for heard in payloads:
            self.talk.hear(way, heard)
        return fault, payloads

    def finish(self, plays_there, plays_back, rounds):
        """Send and deliver, at most so often, until all letters are known to be taken; tell whether they are."""
        before = copied(self.talk)
        try:
            self.talk_on(plays_there, plays_back, rounds)
        except Refused:
            # Some plays give no signal: then nothing has happened.
            self.talk = before
            raise
        return self.talk.is_known()

    def talk_on(self, plays_there, plays_back, rounds):
        """Send and deliver, at most so often, until all letters are known to be taken."""
        for _ in range(rounds):
            if self.talk.is_known():
                return
            self.send()
            self.deliver_all(THERE, plays_there)
            self.deliver_all(BACK, plays_back)

    def deliver_all(self, way, plays):
        """Deliver everything that waits before a chain."""
        while self.line(way):
            self.deliver(way, plays)
