"""Points 2, 4 and 44 to 47: talks."""

import unittest
from random import Random

from edgelink.checks import burst, pack, unpack
from edgelink.errors import Refused
from edgelink.talks import Talk
from samples import GENERATORS, some_bytes

CRC = "100000111"


class Told:
    """A talk as the document tells it, with letters by their numbers, and lines of bytes that are never damaged."""

    def __init__(self, window):
        self.window = window
        self.letters = []
        self.known = 0
        self.taken = []
        self.lines = {"there": [], "back": []}

    def queue(self, letter):
        self.letters.append(letter)

    def send(self):
        numbers = [number for number in range(self.known, len(self.letters)) if number < self.known + self.window]
        for number in numbers:
            self.put("there", [number % (self.window + 1)] + list(self.letters[number]))
        return len(numbers)

    def put(self, way, numbers):
        self.lines[way] = (self.lines[way] + [numbers])[:40]

    def deliver(self, way):
        first, *letter = self.lines[way].pop(0)
        w = self.window
        if way == "there" and first <= w:
            if first == len(self.taken) % (w + 1):
                self.taken.append(tuple(letter))
            self.put("back", [len(self.taken) % (w + 1)])
        elif way == "back" and first <= w and not letter:
            d = 0
            while (self.known + d) % (w + 1) != first:
                d += 1
            if d <= min(w, len(self.letters) - self.known):
                self.known += d

    def lose(self, way, place):
        self.lines[way].pop(place)

    def repeat(self, way, place):
        if len(self.lines[way]) < 40:
            self.lines[way].insert(place + 1, self.lines[way][place])


def all_told(talk):
    """Return everything that a talk tells."""
    return talk.line("there"), talk.line("back"), talk.taken(), talk.known()


def queued(window, generator, letters):
    """Return a talk with letters."""
    talk = Talk(window, generator)
    for letter in letters:
        talk.queue(letter)
    return talk


def answer_of(talk, generator):
    """Return the byte of the last payload on the line back."""
    numbers = unpack(generator, talk.line("back")[-1])
    return numbers[0] if len(numbers) == 1 else None


class TalkTest(unittest.TestCase):
    def refused(self, what, talk, *called):
        """Tell that a call is refused, and leaves the talk as it was."""
        before = all_told(talk)
        with self.assertRaises(Refused) as context:
            getattr(talk, called[0])(*called[1:])
        self.assertEqual(context.exception.what, what)
        self.assertEqual(all_told(talk), before)

    def test_without_letters(self):
        talk = Talk(3, CRC)
        self.assertEqual(all_told(talk), ([], [], [], 0))
        self.assertEqual(talk.send(), 0)
        self.assertEqual(talk.finish(), 0)
        self.assertEqual(all_told(talk), ([], [], [], 0))

    def test_payload_of_a_letter(self):
        for generator in GENERATORS:
            letters = [(), (7,), (0, 255), (1, 2, 3), (255, 255, 255, 255)]
            talk = queued(7, generator, letters)
            self.assertEqual(talk.send(), 5)
            expected = [pack(generator, [number, *letter]) for number, letter in enumerate(letters)]
            self.assertEqual(talk.line("there"), expected)
            self.assertEqual(talk.finish(), 1)
            self.assertEqual(talk.taken(), letters)

    def test_numbers_begin_again(self):
        talk = queued(2, CRC, [(number,) for number in range(8)])
        for number in range(8):
            talk.send()
            self.assertEqual(talk.line("there")[0], pack(CRC, [number % 3, number]))
            talk.deliver("there")
            talk.deliver("back")
            while talk.line("there"):
                talk.lose("there", 0)
        self.assertEqual(talk.known(), 8)

    def test_windows(self):
        for window in range(1, 8):
            talk = queued(window, CRC, [(number,) for number in range(20)])
            self.assertEqual(talk.send(), window)
            self.assertEqual(talk.line("there"), [pack(CRC, [number, number]) for number in range(window)])
            self.assertEqual(talk.finish(), -(-20 // window))
            self.assertEqual((talk.taken(), talk.known()), ([(number,) for number in range(20)], 20))

    def test_window_at_the_end_of_the_queue(self):
        talk = queued(5, CRC, [(1,), (2,)])
        self.assertEqual(talk.send(), 2)
        self.assertEqual(talk.send(), 2)
        self.assertEqual(len(talk.line("there")), 4)
        talk.queue((3,))
        self.assertEqual(talk.send(), 3)

    def test_methods_return_none(self):
        talk = Talk(3, CRC)
        self.assertIsNone(talk.queue((1,)))
        talk.send()
        self.assertIsNone(talk.repeat("there", 0))
        self.assertIsNone(talk.damage("there", 0, 0, "1"))
        self.assertIsNone(talk.lose("there", 0))
        self.assertIsNone(talk.deliver("there"))
        self.assertIsNone(talk.deliver("back"))

    def test_letters_of_0_to_4_bytes(self):
        letters = [(), (9,), (9, 8), (9, 8, 7), (9, 8, 7, 6), ()]
        talk = queued(3, "11", letters)
        self.assertEqual(talk.finish(), 2)
        self.assertEqual(talk.taken(), letters)

    def test_61st_letter(self):
        talk = queued(7, CRC, [(number,) for number in range(60)])
        self.refused("too many letters", talk, "queue", (60,))
        self.assertEqual(talk.finish(), 9)
        # Letters that are known to be taken are still in the queue.
        self.refused("too many letters", talk, "queue", (60,))
        self.assertEqual(talk.taken(), [(number,) for number in range(60)])
        self.assertEqual(talk.known(), 60)


class LinesTest(unittest.TestCase):
    def refused(self, what, talk, *called):
        TalkTest.refused(self, what, talk, *called)

    def test_line_with_40_payloads(self):
        talk = queued(7, CRC, [(number,) for number in range(20)])
        self.assertEqual([talk.send() for _ in range(8)], [7] * 8)
        expected = [pack(CRC, [number, number]) for number in range(7)] * 5 + \
                   [pack(CRC, [number, number]) for number in range(5)]
        self.assertEqual(talk.line("there"), expected)
        talk.repeat("there", 3)
        self.assertEqual(talk.line("there"), expected)
        talk.lose("there", 39)
        talk.repeat("there", 0)
        self.assertEqual(talk.line("there"), expected[:1] + expected[:39])

    def test_answers_onto_a_full_line(self):
        talk = queued(1, CRC, [(1,)])
        talk.send()
        for _ in range(39):
            talk.repeat("there", 0)
        self.assertEqual(talk.line("there"), [pack(CRC, [0, 1])] * 40)
        for _ in range(40):
            talk.deliver("there")
        self.assertEqual(talk.line("back"), [pack(CRC, [1])] * 40)
        talk.send()
        talk.deliver("there")
        self.assertEqual(talk.line("back"), [pack(CRC, [1])] * 40)
        self.assertEqual((talk.taken(), talk.known()), ([(1,)], 0))
        talk.repeat("back", 39)
        self.assertEqual(len(talk.line("back")), 40)

    def test_repeated_directly_behind_its_place(self):
        talk = queued(3, CRC, [(1,), (2,), (3,)])
        talk.send()
        one, two, three = talk.line("there")
        talk.repeat("there", 1)
        self.assertEqual(talk.line("there"), [one, two, two, three])
        talk.repeat("there", 3)
        self.assertEqual(talk.line("there"), [one, two, two, three, three])
        talk.lose("there", 1)
        self.assertEqual(talk.line("there"), [one, two, three, three])

    def test_39_payloads_and_one_more(self):
        talk = queued(1, CRC, [(1,)])
        for _ in range(39):
            talk.send()
        talk.repeat("there", 38)
        self.assertEqual(len(talk.line("there")), 40)
        talk.repeat("there", 38)
        self.assertEqual(len(talk.line("there")), 40)

    def test_places_where_nothing_is(self):
        talk = queued(2, CRC, [(1,), (2,)])
        for way in ("there", "back"):
            self.refused("nothing there", talk, "deliver", way)
            for place in (0, 1, 5):
                self.refused("nothing there", talk, "lose", way, place)
                self.refused("nothing there", talk, "repeat", way, place)
                self.refused("nothing there", talk, "damage", way, place, 0, "1")
                # This comes first.
                self.refused("nothing there", talk, "damage", way, place, 0, "")
        talk.send()
        for place in (2, 3, 40):
            self.refused("nothing there", talk, "lose", "there", place)
            self.refused("nothing there", talk, "repeat", "there", place)
            self.refused("nothing there", talk, "damage", "there", place, 0, "1")
        self.refused("nothing there", talk, "deliver", "back")
        talk.deliver("there")
        self.refused("nothing there", talk, "lose", "there", 1)
        talk.deliver("back")
        self.refused("nothing there", talk, "deliver", "back")

    def test_place_40_of_a_full_line(self):
        talk = queued(1, CRC, [(1,)])
        for _ in range(40):
            talk.send()
        for called in (("lose", "there", 40), ("repeat", "there", 40), ("damage", "there", 40, 0, "1")):
            self.refused("nothing there", talk, *called)

    def test_damage(self):
        talk = queued(2, "11", [(1,), (2,)])
        talk.send()
        self.assertEqual(talk.line("there"), ["0000000010000000" + "1", "1000000001000000" + "0"])
        talk.damage("there", 0, 0, "1")
        self.assertEqual(talk.line("there")[0], "1000000010000000" + "1")
        talk.damage("there", 1, 7, "1010")
        self.assertEqual(talk.line("there")[1], "1000000100000000" + "0")
        talk.damage("there", 1, 16, "1")
        self.assertEqual(talk.line("there")[1], "1000000100000000" + "1")
        talk.damage("there", 1, 0, "1" * 17)
        self.assertEqual(talk.line("there"), ["10000000100000001", "01111110111111110"])
        talk.damage("there", 1, 3, "000")
        self.assertEqual(talk.line("there"), ["10000000100000001", "01111110111111110"])

    def test_damage_of_an_answer(self):
        talk = queued(1, "11", [(1,)])
        talk.send()
        talk.deliver("there")
        self.assertEqual(talk.line("back"), ["100000001"])
        talk.damage("back", 0, 8, "1")
        self.assertEqual(talk.line("back"), ["100000000"])
        talk.deliver("back")
        self.assertEqual(talk.known(), 0)

    def test_pattern_that_does_not_fit(self):
        talk = queued(2, "11", [(1,), ()])
        talk.send()
        for first, pattern in [(0, ""), (3, ""), (17, ""), (0, "1" * 18), (17, "1"), (16, "10"), (30, "1"), (16, "00")]:
            self.refused("pattern does not fit", talk, "damage", "there", 0, first, pattern)
        self.refused("pattern does not fit", talk, "damage", "there", 1, 9, "1")
        self.refused("pattern does not fit", talk, "damage", "there", 1, 0, "0" * 10)
        self.refused("nothing there", talk, "damage", "there", 2, 9, "")
        talk.damage("there", 1, 8, "1")


class TakerTest(unittest.TestCase):
    def hears(self, window, generator, bits):
        """Return the answers and the letters of a taker that hears these bits."""
        talk = Talk(window, generator)
        talk.queue((0, 0, 0, 0))
        talk.send()
        payload = talk.line("there")[0]
        # The bits that are put in the place of the payload have its length.
        talk.damage("there", 0, 0, "".join("1" if one != other else "0" for one, other in zip(payload, bits)))
        self.assertEqual(talk.line("there"), [bits])
        talk.deliver("there")
        self.assertEqual(talk.line("there"), [])
        return [unpack(generator, answer) for answer in talk.line("back")], talk.taken()

    def test_next_letter(self):
        self.assertEqual(self.hears(2, CRC, pack(CRC, [0, 1, 2, 3, 4])), ([[1]], [(1, 2, 3, 4)]))

    def test_other_letters(self):
        for first in (1, 2):
            self.assertEqual(self.hears(2, CRC, pack(CRC, [first, 1, 2, 3, 4])), ([[0]], []))

    def test_first_byte_that_is_greater_than_the_window(self):
        for window in range(1, 8):
            self.assertEqual(self.hears(window, CRC, pack(CRC, [window, 1, 2, 3, 4])), ([[0]], []))
            for first in (window + 1, 8, 128, 255):
                self.assertEqual(self.hears(window, CRC, pack(CRC, [first, 1, 2, 3, 4])), ([], []))

    def test_payload_that_is_not_intact(self):
        bits = pack(CRC, [0, 1, 2, 3, 4])
        for place in range(len(bits)):
            other = bits[:place] + ("1" if bits[place] == "0" else "0") + bits[place + 1:]
            self.assertEqual(self.hears(2, CRC, other), ([], []))

    def test_answers_again(self):
        talk = queued(1, CRC, [(5,)])
        talk.send()
        talk.repeat("there", 0)
        talk.deliver("there")
        talk.deliver("there")
        self.assertEqual(talk.taken(), [(5,)])
        self.assertEqual(talk.line("back"), [pack(CRC, [1])] * 2)

    def test_letters_that_come_too_soon(self):
        talk = queued(3, CRC, [(5,), (6,), (7,)])
        talk.send()
        talk.lose("there", 0)
        talk.deliver("there")
        talk.deliver("there")
        self.assertEqual(talk.taken(), [])
        self.assertEqual(talk.line("back"), [pack(CRC, [0])] * 2)
        talk.deliver("back")
        talk.deliver("back")
        self.assertEqual(talk.known(), 0)
        self.assertEqual(talk.finish(), 1)
        self.assertEqual(talk.taken(), [(5,), (6,), (7,)])


class SenderTest(unittest.TestCase):
    def hears(self, window, letters, taken, numbers):
        """Return what a sender knows that hears one byte in the place of an answer, with so many letters known."""
        talk = queued(window, "11", [(number,) for number in range(letters)])
        for _ in range(taken):
            talk.send()
            talk.deliver("there")
            talk.deliver("back")
            while talk.line("there"):
                talk.lose("there", 0)
        self.assertEqual(talk.known(), taken)
        talk.queue(())
        talk.send()
        while len(talk.line("back")) < 1:
            talk.deliver("there")
        answer, bits = talk.line("back")[0], pack("11", numbers)
        talk.damage("back", 0, 0, "".join("1" if one != other else "0" for one, other in zip(answer, bits)))
        self.assertEqual(talk.line("back"), [bits])
        talk.deliver("back")
        return talk.known() - taken

    def test_all_bytes(self):
        for window in range(1, 8):
            for letters in (0, 1, 3, 12):
                for taken in (0, 1, 3, 9):
                    if taken <= letters:
                        for byte in (*range(9), 128, 255):
                            more = (byte - taken) % (window + 1)
                            right = byte <= window and more <= min(window, letters + 1 - taken)
                            self.assertEqual(self.hears(window, letters, taken, [byte]), more if right else 0)

    def test_answer_that_is_not_intact(self):
        talk = queued(2, CRC, [(1,), (2,)])
        for place in range(16):
            talk.send()
            talk.deliver("there")
            talk.damage("back", 0, place, "1")
            talk.deliver("back")
            while talk.line("there"):
                talk.lose("there", 0)
            self.assertEqual(talk.known(), 0)
        self.assertEqual(talk.taken(), [(1,)])

    def test_one_answer_for_several_letters(self):
        talk = queued(3, CRC, [(1,), (2,), (3,), (4,)])
        talk.send()
        for _ in range(3):
            talk.deliver("there")
        talk.lose("back", 0)
        talk.lose("back", 0)
        talk.deliver("back")
        self.assertEqual(talk.known(), 3)
        self.assertEqual(talk.send(), 1)

    def test_old_answers(self):
        talk = queued(2, CRC, [(1,), (2,), (3,)])
        talk.send()
        talk.deliver("there")
        talk.repeat("back", 0)
        talk.deliver("there")
        self.assertEqual(talk.line("back"), [pack(CRC, [1]), pack(CRC, [1]), pack(CRC, [2])])
        talk.deliver("back")
        talk.deliver("back")
        self.assertEqual(talk.known(), 1)
        talk.deliver("back")
        self.assertEqual(talk.known(), 2)


class FinishTest(unittest.TestCase):
    def test_how_often_it_sends(self):
        for window, letters, expected in [(1, 1, 1), (1, 5, 5), (2, 5, 3), (7, 60, 9), (3, 3, 1), (3, 4, 2), (7, 0, 0)]:
            talk = queued(window, "11", [(number,) for number in range(letters)])
            self.assertEqual(talk.finish(), expected)
            self.assertEqual(all_told(talk), ([], [], [(number,) for number in range(letters)], letters))
            self.assertEqual(talk.finish(), 0)

    def test_behind_lost_payloads(self):
        talk = queued(3, CRC, [(number,) for number in range(6)])
        talk.send()
        talk.lose("there", 1)
        talk.deliver("there")
        talk.lose("back", 0)
        # On the line there is the third letter; the first one is taken, but not known to be.
        self.assertEqual((talk.taken(), talk.known(), len(talk.line("there"))), ([(0,)], 0, 1))
        self.assertEqual(talk.finish(), 2)
        self.assertEqual(all_told(talk), ([], [], [(number,) for number in range(6)], 6))

    def test_behind_full_lines(self):
        talk = queued(7, CRC, [(number,) for number in range(14)])
        for _ in range(8):
            talk.send()
        # The line there takes nothing more; seven letters arrive from it.
        self.assertEqual(talk.finish(), 2)
        self.assertEqual(talk.taken(), [(number,) for number in range(14)])
        talk = queued(2, CRC, [(1,), (2,), (3,)])
        for _ in range(20):
            talk.send()
            talk.lose("there", 1)
        talk.lose("there", 0)
        for _ in range(19):
            talk.deliver("there")
        self.assertEqual(talk.finish(), 2)
        self.assertEqual(talk.taken(), [(1,), (2,), (3,)])

    def test_everything_is_known_while_lines_carry_something(self):
        talk = queued(1, CRC, [(1,)])
        talk.send()
        talk.send()
        talk.deliver("there")
        talk.deliver("back")
        self.assertEqual(talk.finish(), 0)
        self.assertEqual(all_told(talk), ([pack(CRC, [0, 1])], [], [(1,)], 1))


class SharedTest(unittest.TestCase):
    def test_lists_that_are_returned(self):
        talk = queued(3, CRC, [(1,), (2,), (3,)])
        talk.send()
        talk.deliver("there")
        before = all_told(talk)
        for returned in (talk.line("there"), talk.line("back"), talk.taken()):
            returned.append("more")
            returned[:1] = []
            self.assertEqual(all_told(talk), before)

    def test_talks_share_nothing(self):
        one, other = queued(3, CRC, [(1,)]), Talk(3, CRC)
        one.finish()
        self.assertEqual(all_told(other), ([], [], [], 0))
        self.assertEqual(other.send(), 0)

    def test_letters_are_tuples(self):
        talk = queued(3, CRC, [(1, 2)])
        talk.finish()
        self.assertEqual(type(talk.taken()), list)
        self.assertEqual(type(talk.taken()[0]), tuple)


class SomeDeedsTest(unittest.TestCase):
    def holds(self, talk, letters):
        """Tell that the letters taken are the first ones, in order, and those known the first ones of these."""
        self.assertEqual(talk.taken(), letters[:len(talk.taken())])
        self.assertLessEqual(talk.known(), len(talk.taken()))

    def some_letter(self, random):
        return tuple(some_bytes(random.random(), random.randint(0, 4)))

    def test_as_the_document_tells_it(self):
        random = Random(44)
        for _ in range(60):
            window, generator = random.randint(1, 7), random.choice(GENERATORS)
            talk, told, letters = Talk(window, generator), Told(window), []
            for _ in range(120):
                deed = random.choice(["queue", "send", "deliver", "deliver", "deliver", "lose", "repeat"])
                way = random.choice(["there", "back"])
                place = random.randrange(len(talk.line(way))) if talk.line(way) else None
                if deed == "queue" and len(letters) < 60:
                    letters.append(self.some_letter(random))
                    talk.queue(letters[-1])
                    told.queue(letters[-1])
                elif deed == "send":
                    self.assertEqual(talk.send(), told.send())
                elif deed == "deliver" and place is not None:
                    talk.deliver(way)
                    told.deliver(way)
                elif deed in ("lose", "repeat") and place is not None:
                    getattr(talk, deed)(way, place)
                    getattr(told, deed)(way, place)
                lines = {way: [pack(generator, numbers) for numbers in line] for way, line in told.lines.items()}
                self.assertEqual(all_told(talk), (lines["there"], lines["back"], told.taken, told.known))
                self.holds(talk, letters)
            talk.finish()
            self.assertEqual((talk.taken(), talk.known()), (letters, len(letters)))

    def test_damage_within_the_power_of_the_check_bits(self):
        random = Random(45)
        for _ in range(150):
            window, generator = random.randint(1, 7), random.choice(GENERATORS)
            letters = [self.some_letter(random) for _ in range(random.randint(1, 30))]
            talk = queued(window, generator, letters)
            sound = {"there": [], "back": []}  # What the lines carry, as it was before it was damaged.
            for _ in range(200):
                deed = random.choice(["send", "deliver", "deliver", "deliver", "lose", "repeat", "damage", "damage"])
                way = random.choice(["there", "back"])
                if deed == "send":
                    talk.send()
                    sound["there"] += talk.line("there")[len(sound["there"]):]
                elif sound[way]:
                    self.do(random, talk, sound, deed, way, len(generator))
                self.holds(talk, letters)
            talk.finish()
            self.assertEqual((talk.taken(), talk.known()), (letters, len(letters)))

    def do(self, random, talk, sound, deed, way, power):
        """Do something to a payload of a line; damage it only at places that span fewer bits than the power."""
        place = random.randrange(len(sound[way]))
        if deed == "deliver":
            talk.deliver(way)
            sound[way].pop(0)
            sound["back"] += talk.line("back")[len(sound["back"]):]
        elif deed == "lose":
            talk.lose(way, place)
            sound[way].pop(place)
        elif deed == "repeat":
            many = len(talk.line(way))
            talk.repeat(way, place)
            if many < 40:
                sound[way].insert(place, sound[way][place])
        else:
            bits = talk.line(way)[place]
            pattern = "".join(random.choice("01") for _ in range(random.randint(1, min(power, len(bits)))))
            first = random.randrange(len(bits) - len(pattern) + 1)
            end = first + len(pattern)
            changed = "".join("1" if one != other else "0" for one, other in zip(bits[first:end], pattern))
            if burst(sound[way][place], bits[:first] + changed + bits[end:]) < power:
                talk.damage(way, place, first, pattern)
                self.assertEqual(talk.line(way)[place], bits[:first] + changed + bits[end:])


if __name__ == "__main__":
    unittest.main()
