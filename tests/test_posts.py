"""Points 2, 4 and 48: posts."""

import unittest
from random import Random

from edgelink.chains import least_delays, transmit
from edgelink.checks import pack
from edgelink.errors import Refused
from edgelink.posts import Post
from samples import GENERATORS, LIMITS, some_bytes, some_hop, some_play

CRC = "100000111"
HOP = (80, 80, 0, 20, 4)
FAST = (75, 80, 0, 20, 4)
UNSAFE = (80, 86, 10, 20, 4)
PLAY = (80, (), 0)
ONE = (2, 24, (HOP,), ())
TWO = (2, 24, (HOP, HOP), (240,))
LATE = (2, 24, (HOP, FAST), (0,))
PLAYS = {ONE: [PLAY], TWO: [PLAY, PLAY]}


def all_told(post):
    """Return everything that a post tells."""
    return post.line("there"), post.line("back"), post.taken(), post.known(), post.room()


def queued(letters, there=ONE, back=ONE, window=3, generator=CRC):
    """Return a post with letters."""
    post = Post(window, generator, there, back)
    for letter in letters:
        post.queue(letter)
    return post


def some_chain(random, many):
    """Return a chain without fault whose payloads have up to 24 bits, often with the least delays."""
    limit = random.choice(LIMITS)
    hops = tuple(some_hop(random, limit, True) for _ in range(many))
    more = random.choice([0, 0, 1, 700])
    return limit, 24, hops, tuple(delay + more for delay in least_delays(limit, 24, hops))


def some_plays(random, chain):
    """Return a play of each hop of a chain."""
    return [some_play(random, hop, 40) for hop in chain[2]]


class PostTest(unittest.TestCase):
    def refused(self, what, post, *called):
        """Tell that a call is refused, and leaves the post as it was."""
        before = all_told(post)
        with self.assertRaises(Refused) as context:
            getattr(post, called[0])(*called[1:])
        self.assertEqual(context.exception.what, what)
        self.assertEqual(all_told(post), before)

    def test_answers_that_are_too_long(self):
        for generator in GENERATORS:
            size = 8 + len(generator) - 1
            for payload_most in range(2, 25):
                chain = (2, payload_most, (HOP,), ())
                if payload_most < size:
                    with self.assertRaises(Refused) as context:
                        Post(3, generator, ONE, chain)
                    self.assertEqual(context.exception.what, "answers are too long")
                else:
                    self.assertEqual(all_told(Post(3, generator, ONE, chain))[:4], ([], [], [], 0))
        # The chain there may be too narrow for anything.
        self.assertEqual(Post(3, CRC, (2, 2, (HOP,), ()), ONE).known(), 0)

    def test_room(self):
        for generator in GENERATORS:
            for payload_most in range(2, 60):
                room = Post(3, generator, (2, payload_most, (HOP,), ()), ONE).room()
                self.assertLessEqual(8 * (1 + room) + len(generator) - 1, payload_most)
                self.assertGreater(8 * (2 + room) + len(generator) - 1, payload_most)
        self.assertEqual([Post(3, CRC, (2, most, (HOP,), ()), ONE).room() for most in (24, 23, 16, 15, 8, 7, 2)],
                         [1, 0, 0, -1, -1, -2, -2])
        self.assertEqual(Post(3, "11", (2, 17, (HOP,), ()), ONE).room(), 1)

    def test_room_is_that_of_the_chain_there(self):
        self.assertEqual(Post(3, CRC, ONE, (2, 16, (HOP,), ())).room(), 1)

    def test_letter_that_is_too_long(self):
        post = Post(3, CRC, ONE, ONE)
        post.queue((5,))
        post.queue(())
        self.refused("letter is too long", post, "queue", (5, 6))
        self.refused("letter is too long", post, "queue", (5, 6, 7, 8))
        self.assertEqual(post.send(), 2)
        post = Post(3, CRC, (2, 16, (HOP,), ()), ONE)
        post.queue(())
        self.refused("letter is too long", post, "queue", (5,))
        post = Post(3, CRC, (2, 15, (HOP,), ()), ONE)
        self.refused("letter is too long", post, "queue", ())
        self.assertEqual(post.send(), 0)

    def test_61st_letter(self):
        post = queued([(number,) for number in range(60)])
        self.refused("too many letters", post, "queue", (5,))
        self.refused("too many letters", post, "queue", ())
        # This comes first.
        self.refused("letter is too long", post, "queue", (5, 6))
        self.assertTrue(post.finish([PLAY], [PLAY], 20))
        self.refused("too many letters", post, "queue", (5,))

    def test_send(self):
        post = queued([(7,), (), (9,), (1,)])
        self.assertEqual(post.send(), 3)
        self.assertEqual(post.line("there"), [pack(CRC, [0, 7]), pack(CRC, [1]), pack(CRC, [2, 9])])
        self.assertEqual(post.line("back"), [])
        self.assertEqual(Post(3, CRC, ONE, ONE).send(), 0)

    def test_40_payloads_that_wait(self):
        post = queued([(number,) for number in range(3)])
        self.assertEqual([post.send() for _ in range(14)], [3] * 14)
        self.assertEqual(post.line("there"), [pack(CRC, [number, number]) for number in range(3)] * 13 +
                         [pack(CRC, [0, 0])])
        for _ in range(40):
            post.deliver("there", [PLAY])
        self.assertEqual(len(post.line("back")), 40)
        post.send()
        post.deliver("there", [PLAY])
        self.assertEqual((len(post.line("there")), len(post.line("back"))), (2, 40))


class DeliverTest(unittest.TestCase):
    def refused(self, what, post, *called):
        PostTest.refused(self, what, post, *called)

    def test_nothing_waits(self):
        post = queued([(7,)])
        self.refused("nothing there", post, "deliver", "there", [PLAY])
        self.refused("nothing there", post, "deliver", "back", [PLAY])
        post.send()
        self.refused("nothing there", post, "deliver", "back", [PLAY])
        post.deliver("there", [PLAY])
        self.refused("nothing there", post, "deliver", "there", [PLAY])
        post.deliver("back", [PLAY])
        self.refused("nothing there", post, "deliver", "back", [PLAY])

    def test_chains_without_fault(self):
        post = queued([(7,), (8,)], TWO, ONE)
        post.send()
        self.assertEqual(post.deliver("there", [PLAY, (80, (), 13)]), (None, [pack(CRC, [0, 7])]))
        self.assertEqual((post.line("there"), post.line("back")), ([pack(CRC, [1, 8])], [pack(CRC, [1])]))
        self.assertEqual((post.taken(), post.known()), ([(7,)], 0))
        self.assertEqual(post.deliver("back", [PLAY]), (None, [pack(CRC, [1])]))
        self.assertEqual((post.taken(), post.known()), ([(7,)], 1))
        self.assertEqual((len(post.line("there")), post.line("back")), (1, []))

    def test_first_one_that_waits(self):
        post = queued([(7,), (8,), (9,)])
        post.send()
        waiting = post.line("there")
        for place in range(3):
            self.assertEqual(post.deliver("there", [PLAY]), (None, [waiting[place]]))
            self.assertEqual(post.line("there"), waiting[place + 1:])

    def test_fault_of_a_hop(self):
        unsafe = (2, 24, (UNSAFE,), ())
        post = queued([(7,)], unsafe, unsafe)
        post.send()
        # The second edge comes late, the first one early: the gap of the flag is misread.
        self.assertEqual(post.deliver("there", [(86, (-10, 10), 10)]), (("hop", 0), []))
        self.assertEqual(all_told(post)[:4], ([], [], [], 0))
        post.send()
        self.assertEqual(post.deliver("there", [(86, (), 0)]), (None, [pack(CRC, [0, 7])]))
        self.assertEqual(post.deliver("back", [(86, (-10, 10), 10)]), (("hop", 0), []))
        self.assertEqual(all_told(post)[:4], ([], [], [(7,)], 0))

    def test_payload_that_is_received_otherwise(self):
        # A zero moves behind the one that follows it: another payload, which is not intact, is heard.
        post = queued([(1,)])
        post.send()
        checks = pack(CRC, [0, 1])[16:]
        self.assertEqual(post.line("there"), ["00000000" + "10000000" + checks])
        fault, payloads = post.deliver("there", [(80, (0,) * 9 + (80,), 0)])
        self.assertEqual((fault, payloads), (("hop", 0), ["00000001" + "00000000" + checks]))
        self.assertEqual(all_told(post)[:4], ([], [], [], 0))
        self.assertIs(post.finish([(80, (0,) * 9 + (80,), 0)], [PLAY], 3), False)
        self.assertEqual(all_told(post)[:4], ([], [], [], 0))

    def test_fault_of_a_relay(self):
        post = queued([(7,)], LATE, ONE)
        post.send()
        self.assertEqual(post.deliver("there", [PLAY, (75, (), 0)]), (("relay", 0), []))
        self.assertEqual(all_told(post)[:4], ([], [], [], 0))
        post = queued([(7,)], ONE, LATE)
        post.send()
        post.deliver("there", [PLAY])
        self.assertEqual(post.deliver("back", [PLAY, (75, (), 0)]), (("relay", 0), []))
        self.assertEqual(all_told(post)[:4], ([], [], [(7,)], 0))

    def test_several_payloads_are_heard_in_order(self):
        # A gap of 3 bits becomes one of 4, the flag's: two payloads come out, and neither is a letter.
        random = Random(48)
        many = 0
        for number in range(256):
            post = queued([(number,)], generator="11")
            post.send()
            payload = post.line("there")[0]
            for edge in range(2, 12):
                # All edges from one on come a bit later.
                plays = [(80, (0,) * edge + (80,) * 40, random.randrange(20))]
                signals, fault, received = transmit(ONE, payload, plays)
                post = queued([(number,)], generator="11")
                post.send()
                self.assertEqual(post.deliver("there", plays), (fault, received))
                many += len(received) > 1
        self.assertGreater(many, 3)

    def test_what_is_heard_in_order(self):
        # Of the bytes 0, 252, 0 the ones become a flag: before it "0", and behind it "0" without bytes.
        chain = (6, 24, (HOP,), ())
        post = queued([(252,)], chain, chain, generator="11")
        post.send()
        payload = post.line("there")[0]
        self.assertEqual(payload, "00000000" + "00111111" + "0")
        edge = 12  # The one behind the six ones, counted with the two edges of the flag.
        plays = [(80, (0,) * edge + (80,) * 40, 0)]
        fault, payloads = post.deliver("there", plays)
        self.assertEqual((fault, payloads), (("hop", 0), ["000000000", "0"]))
        # The first one is intact, and holds the byte 0: it is taken as a letter without bytes, and answered.
        self.assertEqual((post.taken(), post.line("back")), ([()], [pack("11", [1])]))

    def test_plays_that_give_no_signal(self):
        post = queued([(7,), (8,)])
        post.send()
        post.deliver("there", [PLAY])
        self.refused("edges out of order", post, "deliver", "there", [(80, (0, -330), 0)])
        self.refused("edges out of order", post, "deliver", "back", [(80, (-2001,), 0)])
        self.refused("edges out of order", post, "finish", [(80, (0, -330), 0)], [PLAY], 5)
        self.refused("edges out of order", post, "finish", [PLAY], [(80, (0, -330), 0)], 5)
        self.assertTrue(post.finish([PLAY], [PLAY], 1))
        self.assertEqual(post.taken(), [(7,), (8,)])


class FinishTest(unittest.TestCase):
    def test_as_many_rounds_as_are_needed(self):
        for window, letters, needed in [(1, 5, 5), (2, 5, 3), (7, 60, 9), (3, 3, 1), (3, 4, 2)]:
            for there, back in [(ONE, ONE), (TWO, ONE), (ONE, TWO)]:
                for rounds in (0, 1, needed - 1, needed, needed + 1, 100):
                    post = queued([(number,) for number in range(letters)], there, back, window)
                    found = post.finish(PLAYS[there], PLAYS[back], rounds)
                    self.assertIs(found, rounds >= needed)
                    known = min(letters, window * rounds)
                    self.assertEqual(all_told(post)[:4], ([], [], [(number,) for number in range(known)], known))

    def test_no_rounds(self):
        post = queued([(7,)])
        self.assertIs(post.finish([PLAY], [PLAY], 0), False)
        self.assertEqual(all_told(post)[:4], ([], [], [], 0))
        self.assertIs(Post(3, CRC, ONE, ONE).finish([PLAY], [PLAY], 0), True)
        self.assertIs(Post(3, CRC, ONE, ONE).finish([PLAY], [PLAY], 5), True)

    def test_nothing_is_done_when_all_are_known(self):
        post = queued([(7,)])
        post.send()
        post.send()
        post.deliver("there", [PLAY])
        post.deliver("back", [PLAY])
        before = all_told(post)
        self.assertIs(post.finish([PLAY], [PLAY], 5), True)
        self.assertEqual(all_told(post), before)
        self.assertEqual(len(post.line("there")), 1)

    def test_a_chain_that_lets_nothing_through(self):
        post = queued([(7,)], LATE, ONE)
        self.assertIs(post.finish([PLAY, (75, (), 0)], [PLAY], 3), False)
        self.assertEqual(all_told(post)[:4], ([], [], [], 0))
        post = queued([(7,)], ONE, LATE)
        self.assertIs(post.finish([PLAY], [PLAY, (75, (), 0)], 3), False)
        self.assertEqual(all_told(post)[:4], ([], [], [(7,)], 0))

    def test_rounds_from_now_on(self):
        post = queued([(number,) for number in range(9)])
        self.assertIs(post.finish([PLAY], [PLAY], 1), False)
        self.assertIs(post.finish([PLAY], [PLAY], 1), False)
        self.assertEqual(post.known(), 6)
        self.assertIs(post.finish([PLAY], [PLAY], 1), True)


class SharedTest(unittest.TestCase):
    def test_lists_that_are_returned_or_passed(self):
        post = queued([(7,), (8,), (9,)])
        post.send()
        plays = [PLAY]
        _, payloads = post.deliver("there", plays)
        self.assertEqual(plays, [PLAY])
        before = all_told(post)
        for returned in (payloads, post.line("there"), post.line("back"), post.taken(), plays):
            returned.append("more")
            returned[:1] = []
            self.assertEqual(all_told(post), before)

    def test_plays_stay_as_they_are(self):
        there, back = [PLAY, PLAY], [PLAY]
        self.assertTrue(queued([(7,)], TWO, ONE).finish(there, back, 1))
        self.assertEqual((there, back), ([PLAY, PLAY], [PLAY]))

    def test_posts_share_nothing(self):
        one, other = queued([(7,)]), Post(3, CRC, ONE, ONE)
        one.finish([PLAY], [PLAY], 1)
        self.assertEqual(all_told(other), ([], [], [], 0, 1))


class SomePlaysTest(unittest.TestCase):
    def test_every_letter_is_taken_once_and_in_order(self):
        random = Random(2)
        for there_hops in range(1, 5):
            for back_hops in range(1, 5):
                there, back = some_chain(random, there_hops), some_chain(random, back_hops)
                post = Post(random.randint(1, 7), random.choice(GENERATORS), there, back)
                letters = [tuple(some_bytes(random.random(), random.randint(0, post.room()))) for _ in range(9)]
                for letter in letters:
                    post.queue(letter)
                for _ in range(3):
                    post.send()
                    for way, chain in [("there", there), ("back", back)]:
                        while post.line(way):
                            payload = post.line(way)[0]
                            self.assertEqual(post.deliver(way, some_plays(random, chain)), (None, [payload]))
                    self.assertEqual(post.taken(), letters[:len(post.taken())])
                    self.assertEqual(post.known(), len(post.taken()))
                self.assertTrue(post.finish(some_plays(random, there), some_plays(random, back), 9))
                self.assertEqual(post.taken(), letters)


if __name__ == "__main__":
    unittest.main()
