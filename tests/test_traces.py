"""Point 16: traces are read and written, and each fault is told with its line."""

import unittest
from random import Random

from edgelink.errors import BadTrace
from edgelink.traces import read_trace, write_trace

HEAD = "trace 2 20 4 19"
LONG = [HEAD] + [f"edge {time}" for time in range(256)]


class ReadAndWriteTest(unittest.TestCase):
    def test_there_and_back(self):
        self.assertEqual(write_trace(2, (20, 4), 19, [0, 7, 1000000]), "trace 2 20 4 19\nedge 0\nedge 7\nedge 1000000")
        self.assertEqual(read_trace("trace 2 20 4 19\nedge 0\nedge 7\nedge 1000000"), (2, (20, 4), 19, [0, 7, 1000000]))

    def test_without_edges(self):
        self.assertEqual(write_trace(7, (1, 3), 0, []), "trace 7 1 3 0")
        self.assertEqual(read_trace("trace 7 1 3 0"), (7, (1, 3), 0, []))

    def test_some_traces(self):
        random = Random(16)
        for many in (0, 1, 2, 30, 255, 256):
            for _ in range(10):
                poll = random.randint(1, 50)
                trace = (random.randint(2, 7), (poll, random.randint(3, 32)), random.randrange(poll),
                         sorted(random.sample(range(1000001), many)))
                self.assertEqual(read_trace(write_trace(*trace)), trace)
                self.assertEqual(len(write_trace(*trace).split("\n")), many + 1)

    def test_kinds_of_values(self):
        limit, receiver, phase, signal = read_trace(HEAD + "\nedge 5")
        self.assertEqual([type(part) for part in (limit, receiver, phase, signal)], [int, tuple, int, list])

    def test_spaces_and_empty_lines_have_no_meaning(self):
        text = "\n   \n\n  trace   2 20  4     19   \n\n     edge     0\n \nedge  7  \n\n   edge 1000000\n  \n\n"
        self.assertEqual(read_trace(text), (2, (20, 4), 19, [0, 7, 1000000]))

    def test_bounds_are_numbers(self):
        for words in ("2 1 3 0", "7 50 32 49", "2 50 3 0", "7 1 32 0"):
            limit, poll, polls_per_bit, phase = map(int, words.split())
            self.assertEqual(read_trace(f"trace {words}"), (limit, (poll, polls_per_bit), phase, []))

    def test_256_edges(self):
        self.assertEqual(read_trace("\n".join(LONG))[3], list(range(256)))


class FaultTest(unittest.TestCase):
    def told(self, line, what, *lines):
        with self.assertRaises(BadTrace) as context:
            read_trace("\n".join(lines))
        self.assertEqual((context.exception.line, context.exception.what), (line, what), lines)

    def test_text_without_words(self):
        self.told(1, "head is expected", "")
        self.told(1, "head is expected", "    ")
        self.told(2, "head is expected", "", "")
        self.told(4, "head is expected", "  ", "", " ", "    ")

    def test_wrong_head(self):
        for head in ("edge 5", "trace", "trace 2 20 4", "trace 2 20 4 19 0", "Trace 2 20 4 19", "traces 2 20 4 19",
                     "2 20 4 19", "20 trace 4 19 2", "chain 2 20 4 19", "trace2 20 4 19", "trace\t2 20 4 19", "."):
            self.told(1, "head is expected", head)
            self.told(3, "head is expected", "", "  ", " " + head, "edge 5")

    def test_wrong_number_in_the_head(self):
        for words in ("1 20 4 19", "8 20 4 19", "2 0 4 0", "2 51 4 19", "2 20 2 19", "2 20 33 19", "2 20 4 20",
                      "2 1 4 1", "2 50 4 50", "x 20 4 19", "2 2x 4 19", "2 20 4. 19", "2 20 4 -1", "+2 20 4 19",
                      "02 20 4 19", "2 20 04 19", "2 20 4 00", "2 20 4 019", "2 20 4 0x1", "2 20 4 1_0",
                      "00000002 20 4 19", "2 20 4 10000000", "2 20 4\t 19", "2 20 4 19\r"):
            self.told(1, "number is wrong", f"trace {words}")
            self.told(2, "number is wrong", "", f"trace   {words} ", "what")

    def test_line_that_is_not_known(self):
        for line in ("edge", "edge 5 6", "edges 5", "Edge 5", "5", "5 edge", "edge5", HEAD, "relay 5", "\t", "edge\t5"):
            self.told(2, "line is not known", HEAD, line)
            self.told(5, "line is not known", HEAD, "edge 1", "", "edge 4", line, "edge 9")

    def test_wrong_number_of_an_edge(self):
        for word in ("x", "-5", "+5", "05", "00", "5.", "5.0", "1e3", "1000001", "9999999", "10000000", "00000005",
                     "0x5", "5_0", "5\t", "''"):
            self.told(2, "number is wrong", HEAD, f"edge {word}")
            self.told(4, "number is wrong", HEAD, "edge 3", " ", f"  edge   {word}", "edge 4")

    def test_edge_that_is_not_later(self):
        self.told(3, "edge is not later", HEAD, "edge 5", "edge 5")
        self.told(3, "edge is not later", HEAD, "edge 5", "edge 4", "edge 9")
        self.told(3, "edge is not later", HEAD, "edge 0", "edge 0")
        self.told(5, "edge is not later", HEAD, "edge 5", "", "edge 1000000", "edge 1000000")
        self.assertEqual(read_trace(HEAD + "\nedge 5\nedge 6")[3], [5, 6])

    def test_257th_edge(self):
        self.told(258, "too many edges", *LONG, "edge 256")
        self.told(258, "too many edges", *LONG, "edge 256", "edge 257", "what")
        self.told(260, "too many edges", *LONG, "", "   ", "edge 1000000")

    def test_first_line_with_a_fault(self):
        self.told(1, "head is expected", "what", "what")
        self.told(1, "number is wrong", "trace 9 9 9 9", "what", "edge 5", "edge 5")
        self.told(2, "line is not known", HEAD, "what", "edge x")
        self.told(3, "edge is not later", HEAD, "edge 5", "edge 5", "edge x", "what")
        self.told(2, "number is wrong", HEAD, "edge x", "edge 5", "edge 5")

    def test_first_fault_of_a_line(self):
        self.told(1, "head is expected", "trace 9 9 9 9 9")
        self.told(2, "line is not known", HEAD, "edge x x")
        self.told(258, "line is not known", *LONG, "edge 3 4")
        self.told(258, "number is wrong", *LONG, "edge 1000001")
        self.told(258, "edge is not later", *LONG, "edge 255")
        self.told(258, "edge is not later", *LONG, "edge 0", "edge 300")


if __name__ == "__main__":
    unittest.main()
