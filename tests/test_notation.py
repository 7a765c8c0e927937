"""Point 32: the text of a chain is read and written, and each fault is told with its line."""

import unittest
from random import Random

from edgelink.errors import BadTrace
from edgelink.notation import read_chain, write_chain

HEAD = "chain 2 24"
HOP = "hop 80 85 10 20 4"
RELAY = "relay 300"
FOUR = [HEAD, HOP, RELAY, HOP, RELAY, HOP, RELAY, HOP]
HOPS = ((80, 85, 10, 20, 4), (2000, 2000, 500, 50, 32), (50, 2000, 24, 1, 3), (1001, 1002, 500, 20, 4))


def some_chain(random, many):
    """Return a chain within the bounds."""
    limit = random.randint(2, 7)
    hops = []
    for _ in range(many):
        least = random.randint(50, 2000)
        jitter = random.randint(0, min(500, (least - 1) // 2))
        hops.append((least, random.randint(least, 2000), jitter, random.randint(1, 50), random.randint(3, 32)))
    delays = tuple(random.randint(0, 100000) for _ in range(many - 1))
    return limit, random.randint(limit, 24), tuple(hops), delays


def spaced(random, text):
    """Return a text with more spaces, empty lines, and lines of spaces."""
    lines = []
    for line in text.split("\n"):
        lines += [" " * random.randint(0, 3) for _ in range(random.choice([0, 0, 1, 2]))]
        words = [word + " " * random.randint(1, 3) for word in line.split(" ")]
        lines.append(" " * random.randint(0, 2) + "".join(words))
    return "\n".join(lines + [" " * random.randint(0, 3) for _ in range(random.randint(0, 2))])


class ReadAndWriteTest(unittest.TestCase):
    def test_write(self):
        self.assertEqual(write_chain((2, 24, HOPS[:1], ())), "chain 2 24\nhop 80 85 10 20 4")
        self.assertEqual(write_chain((7, 7, HOPS[:3], (0, 100000))),
                         "chain 7 7\nhop 80 85 10 20 4\nrelay 0\nhop 2000 2000 500 50 32\nrelay 100000\n"
                         "hop 50 2000 24 1 3")

    def test_read(self):
        self.assertEqual(read_chain("chain 2 24\nhop 80 85 10 20 4"), (2, 24, HOPS[:1], ()))
        text = "chain 3 9\nhop 80 85 10 20 4\nrelay 300\nhop 2000 2000 500 50 32"
        self.assertEqual(read_chain(text), (3, 9, HOPS[:2], (300,)))

    def test_tuples(self):
        limit, payload_most, hops, delays = read_chain("\n".join(FOUR))
        self.assertEqual([type(part) for part in (limit, payload_most, hops, delays)], [int, int, tuple, tuple])
        self.assertEqual([type(hop) for hop in hops], [tuple] * 4)

    def test_there_and_back(self):
        random = Random(32)
        for many in range(1, 5):
            for _ in range(60):
                chain = some_chain(random, many)
                text = write_chain(chain)
                self.assertEqual(len(text.split("\n")), 2 * many)
                self.assertEqual(read_chain(text), chain)
                self.assertEqual(write_chain(read_chain(text)), text)

    def test_spaces_and_empty_lines_have_no_meaning(self):
        text = "\n  \n chain  2   24 \n\n   hop 80  85 10 20   4\n   \nrelay     300\n\n hop 80 85 10 20 4  \n \n"
        self.assertEqual(read_chain(text), (2, 24, (HOPS[0], HOPS[0]), (300,)))
        random = Random(33)
        for many in range(1, 5):
            for _ in range(40):
                chain = some_chain(random, many)
                self.assertEqual(read_chain(spaced(random, write_chain(chain))), chain)

    def test_bounds_are_numbers(self):
        for head in ("2 2", "2 24", "7 7", "7 24"):
            limit, payload_most = map(int, head.split())
            self.assertEqual(read_chain(f"chain {head}\n{HOP}")[:2], (limit, payload_most))
        for words in ("50 50 0 1 3", "50 2000 24 50 32", "2000 2000 500 1 32", "2000 2000 0 50 3", "51 51 25 1 3",
                      "1000 1000 499 1 3", "1001 1001 500 1 3"):
            self.assertEqual(read_chain(f"{HEAD}\nhop {words}")[2], (tuple(map(int, words.split())),))
        for delay in (0, 100000):
            self.assertEqual(read_chain(f"{HEAD}\n{HOP}\nrelay {delay}\n{HOP}")[3], (delay,))


class FaultTest(unittest.TestCase):
    def told(self, line, what, *lines):
        with self.assertRaises(BadTrace) as context:
            read_chain("\n".join(lines))
        self.assertEqual((context.exception.line, context.exception.what), (line, what), lines)

    def test_text_without_words(self):
        self.told(1, "head is expected", "")
        self.told(1, "head is expected", "   ")
        self.told(2, "head is expected", "", "")
        self.told(4, "head is expected", "  ", "", "", " ")

    def test_wrong_head(self):
        for head in ("chain", "chain 2", "chain 2 24 0", "chains 2 24", "Chain 2 24", "2 chain 24", "trace 2 20 4 19",
                     "trace 2 24", HOP, RELAY, "2 24", "chain2 24", "chain\t2 24", "chain 2 24 chain 2 24"):
            self.told(1, "head is expected", head, HOP)
            self.told(3, "head is expected", "", "  ", "  " + head)

    def test_wrong_number_in_the_head(self):
        for words in ("1 24", "8 24", "2 25", "2 1", "3 2", "7 6", "2 0", "0 24", "x 24", "2 x", "02 24", "2 024",
                      "+2 24", "2 -24", "2 24.", "2 2_4", "2 10000000", "00000002 24", "2\t24 5"):
            self.told(1, "number is wrong", f"chain {words}", HOP)
            self.told(2, "number is wrong", "", f" chain  {words} ", "what")

    def test_hop_that_is_expected(self):
        for line in ("hop", "hop 80 85 10 20", "hop 80 85 10 20 4 5", "hops 80 85 10 20 4", "Hop 80 85 10 20 4",
                     "80 85 10 20 4", "80 hop 85 10 20 4", RELAY, HEAD, "hop80 85 10 20 4 5",
                     "hop\t80 85 10 20 4", "."):
            self.told(2, "hop is expected", HEAD, line)
            self.told(5, "hop is expected", HEAD, "", HOP, RELAY, line, RELAY)

    def test_wrong_number_of_a_hop(self):
        for words in ("49 85 10 20 4", "2001 2001 10 20 4", "80 79 10 20 4", "80 2001 10 20 4", "80 85 40 20 4",
                      "1001 1001 501 20 4", "2000 2000 501 20 4", "81 85 41 20 4", "80 85 -1 20 4", "80 85 10 0 4",
                      "80 85 10 51 4", "80 85 10 20 2", "80 85 10 20 33", "x 85 10 20 4", "80 x 10 20 4",
                      "80 85 x 20 4", "80 85 10 x 4", "80 85 10 20 x", "080 85 10 20 4", "80 85 10 20 04",
                      "80 85 00 20 4", "80 85 10 +20 4", "80 85 10 20 4\t", "80 85 10 20 10000000"):
            self.told(2, "number is wrong", HEAD, f"hop {words}")
            self.told(4, "number is wrong", HEAD, HOP, RELAY, f"  hop {words}", "what")

    def test_relay_that_is_expected(self):
        for line in ("relay", "relay 300 5", "relays 300", "Relay 300", "300", "300 relay", HOP, HEAD, "relay300",
                     "relay\t300", "what"):
            self.told(3, "relay is expected", HEAD, HOP, line)
            self.told(6, "relay is expected", HEAD, HOP, RELAY, "", HOP, line, HOP)

    def test_wrong_number_of_a_relay(self):
        for word in ("x", "-1", "+1", "00", "0300", "100001", "9999999", "10000000", "3.0", "300\t"):
            self.told(3, "number is wrong", HEAD, HOP, f"relay {word}")
            self.told(5, "number is wrong", HEAD, HOP, RELAY, HOP, f"relay  {word} ", "what")

    def test_relay_behind_the_fourth_hop(self):
        self.told(9, "too many hops", *FOUR, RELAY)
        self.told(9, "too many hops", *FOUR, RELAY, HOP)
        self.told(11, "too many hops", *FOUR, "", "  ", "relay 0", "what")
        self.told(9, "number is wrong", *FOUR, "relay 100001")
        self.told(9, "number is wrong", *FOUR, "relay x", HOP)
        self.told(9, "relay is expected", *FOUR, HOP)
        self.told(9, "relay is expected", *FOUR, "relay 1 2")

    def test_end_of_the_text(self):
        self.told(1, "hop is expected", HEAD)
        self.told(3, "hop is expected", HEAD, "", "  ")
        self.told(3, "hop is expected", "", HEAD, "")
        self.told(3, "hop is expected", HEAD, HOP, RELAY)
        self.told(6, "hop is expected", HEAD, HOP, "", RELAY, "", "")
        self.told(7, "hop is expected", *FOUR[:7])

    def test_first_line_with_a_fault(self):
        self.told(1, "head is expected", "what", "what", "what")
        self.told(1, "number is wrong", "chain 9 9", "what")
        self.told(2, "hop is expected", HEAD, "what", "relay x")
        self.told(2, "number is wrong", HEAD, "hop 1 1 1 1 1", "what")
        self.told(3, "relay is expected", HEAD, HOP, "what", "hop 1 1 1 1 1")
        self.told(3, "number is wrong", HEAD, HOP, "relay x", "what")
        # A line with a fault comes before the end of the text.
        self.told(3, "number is wrong", HEAD, HOP, "relay x")
        self.told(1, "number is wrong", "chain 2 25")

    def test_first_fault_of_a_line(self):
        self.told(1, "head is expected", "chain 9 9 9")
        self.told(2, "hop is expected", HEAD, "hop 1 1 1 1 1 1")
        self.told(3, "relay is expected", HEAD, HOP, "relay x x")
        self.told(9, "relay is expected", *FOUR, "relay x x")


if __name__ == "__main__":
    unittest.main()
