"""Talks: letters that are sent again and again, with a window, until they are known to be taken."""

from edgelink.checks import added, pack, unpack
from edgelink.errors import Refused

THERE = "there"
BACK = "back"
MOST_LETTERS = 60
MOST_PAYLOADS = 40


class Talk:
    """A sender with a queue of letters, a taker, and a line there and one back between them."""

    def __init__(self, window, generator):
        self.window = window
        self.generator = generator
        self.letters = []
        self.letters_known = 0
        self.letters_taken = []
        self.lines = {THERE: [], BACK: []}

    def queue(self, letter):
        """Put a letter at the end of the queue."""
        if len(self.letters) >= MOST_LETTERS:
            raise Refused("too many letters")
        self.letters.append(tuple(letter))

    def in_window(self):
        """Return the number of letters in the sender's window."""
        return min(self.window, len(self.letters) - self.letters_known)

    def remainder(self, number):
        """Return what is told in the place of a number: with it the window's letters are told apart."""
        return number % (self.window + 1)

    def send(self):
        """Put the payloads of all letters of the window onto the line there; return how many these are."""
        many = self.in_window()
        for number in range(self.letters_known, self.letters_known + many):
            self.put(THERE, [self.remainder(number)] + list(self.letters[number]))
        return many

    def put(self, way, numbers):
        """Put packed bytes at the end of a line; they are lost if it is full."""
        if len(self.lines[way]) < MOST_PAYLOADS:
            self.lines[way].append(pack(self.generator, numbers))

    def deliver(self, way):
        """Take the first payload of a line, and let it be heard."""
        payload = self.carried(way, 0)
        self.lose(way, 0)
        self.hear(way, payload)

    def carried(self, way, place):
        """Return the payload that a line carries at a place."""
        if place >= len(self.lines[way]):
            raise Refused("nothing there")
        return self.lines[way][place]

    def hear(self, way, payload):
        """Let a payload be heard by the one at the end of its way."""
        if way == THERE:
            self.hear_letter(payload)
        else:
            self.hear_answer(payload)

    def hear_letter(self, payload):
        """Let the taker take the letter of a payload, if it is the next one, and answer."""
        numbers = unpack(self.generator, payload)
        if not numbers or numbers[0] > self.window:
            return
        if numbers[0] == self.remainder(len(self.letters_taken)):
            self.letters_taken.append(tuple(numbers[1:]))
        self.put(BACK, [self.remainder(len(self.letters_taken))])

    def hear_answer(self, payload):
        """Let the sender know of the letters that an answer tells to be taken."""
        numbers = unpack(self.generator, payload)
        if numbers is None or len(numbers) != 1 or numbers[0] > self.window:
            return
        more = self.remainder(numbers[0] - self.letters_known)
        if more <= self.in_window():
            self.letters_known += more

    def lose(self, way, place):
        """Lose what a line carries at a place."""
        self.carried(way, place)
        del self.lines[way][place]

    def repeat(self, way, place):
        """Repeat what a line carries at a place, directly behind it, if the line is not full."""
        payload = self.carried(way, place)
        if len(self.lines[way]) < MOST_PAYLOADS:
            self.lines[way].insert(place + 1, payload)

    def damage(self, way, place, first, pattern):
        """Change the bits of what a line carries at a place, from a bit on, at which a pattern has ones."""
        payload = self.carried(way, place)
        end = first + len(pattern)
        if not pattern or end > len(payload):
            raise Refused("pattern does not fit")
        self.lines[way][place] = payload[:first] + added(payload[first:end], pattern) + payload[end:]

    def line(self, way):
        """Return the payloads that a line carries."""
        return list(self.lines[way])

    def taken(self):
        """Return the letters that were taken."""
        return list(self.letters_taken)

    def known(self):
        """Return the number of letters that are known to be taken."""
        return self.letters_known

    def is_known(self):
        """Tell whether all letters of the queue are known to be taken."""
        return self.letters_known == len(self.letters)

    def finish(self):
        """Send and deliver until all letters are known to be taken; return how often it sent."""
        rounds = 0
        while not self.is_known():
            self.send()
            self.deliver_all(THERE)
            self.deliver_all(BACK)
            rounds += 1
        return rounds

    def deliver_all(self, way):
        """Deliver everything that a line carries."""
        while self.lines[way]:
            self.deliver(way)


def copied(talk):
    """Return a talk that is as another one, and shares nothing with it."""
    other = Talk(talk.window, talk.generator)
    other.letters = list(talk.letters)
    other.letters_known = talk.letters_known
    other.letters_taken = list(talk.letters_taken)
    other.lines = {way: list(talk.lines[way]) for way in (THERE, BACK)}
    return other
