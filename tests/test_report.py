"""Point 31: the report of a chain."""

import unittest

from edgelink.report import report

HOP = (80, 80, 0, 20, 4)
FAST = (75, 80, 0, 20, 4)
CLOSE = (80, 85, 10, 20, 4)
UNSAFE = (80, 86, 10, 20, 4)
UNSAFE_FOR_3 = (80, 84, 10, 20, 4)

HOP_LINE = "safe, margin 20 early at gap 1, limits to 7"
FAST_LINE = "safe, margin 0 early at gap 4, limits to 2"
CLOSE_LINE = "safe, margin 0 early at gap 1, limits to 2"
UNSAFE_LINE = "not safe, margin -4 late at gap 4, no limit"


class ReportTest(unittest.TestCase):
    def told(self, chain, *lines):
        self.assertEqual(report(chain), "\n".join(lines))

    def test_one_safe_hop(self):
        self.told((2, 2, (HOP,), ()), "limit 2, payloads to 2", f"hop 0: {HOP_LINE}", "arrives from 2720 to 2739")
        self.told((2, 24, (CLOSE,), ()), "limit 2, payloads to 24", f"hop 0: {CLOSE_LINE}", "arrives from 2710 to 2794")

    def test_one_hop_that_is_not_safe(self):
        self.told((2, 2, (UNSAFE,), ()), "limit 2, payloads to 2", f"hop 0: {UNSAFE_LINE}", "fault: hop 0")

    def test_hop_that_is_safe_for_a_lesser_limit(self):
        self.told((4, 9, (UNSAFE_FOR_3,), ()), "limit 4, payloads to 9",
                  "hop 0: not safe, margin -4 late at gap 6, limits to 3", "fault: hop 0")

    def test_relay_that_does(self):
        self.told((2, 2, (HOP, FAST), (285,)), "limit 2, payloads to 2", f"hop 0: {HOP_LINE}",
                  "relay 0: delay 285, needs 285, holds 4", f"hop 1: {FAST_LINE}",
                  "arrives from 2960 to 3043")
        self.told((2, 2, (HOP, HOP), (961,)), "limit 2, payloads to 2", f"hop 0: {HOP_LINE}",
                  "relay 0: delay 961, needs 240, holds 13", f"hop 1: {HOP_LINE}",
                  "arrives from 3681 to 3719")

    def test_relay_whose_delay_is_too_short(self):
        self.told((2, 2, (HOP, FAST), (284,)), "limit 2, payloads to 2", f"hop 0: {HOP_LINE}",
                  "relay 0: delay 284, needs 285", f"hop 1: {FAST_LINE}", "fault: relay 0")

    def test_relay_behind_a_hop_that_is_not_safe(self):
        self.told((2, 2, (UNSAFE, HOP), (100000,)), "limit 2, payloads to 2", f"hop 0: {UNSAFE_LINE}",
                  "relay 0: hop is not safe", f"hop 1: {HOP_LINE}", "fault: hop 0")

    def test_relay_ahead_of_a_hop_that_is_not_safe(self):
        self.told((2, 2, (HOP, UNSAFE), (240,)), "limit 2, payloads to 2", f"hop 0: {HOP_LINE}",
                  "relay 0: delay 240, needs 240, holds 4", f"hop 1: {UNSAFE_LINE}", "fault: hop 1")
        self.told((2, 2, (HOP, UNSAFE), (239,)), "limit 2, payloads to 2", f"hop 0: {HOP_LINE}",
                  "relay 0: delay 239, needs 240", f"hop 1: {UNSAFE_LINE}", "fault: relay 0")

    def test_three_hops(self):
        self.told((2, 2, (HOP, HOP, HOP), (240, 0)), "limit 2, payloads to 2", f"hop 0: {HOP_LINE}",
                  "relay 0: delay 240, needs 240, holds 3", f"hop 1: {HOP_LINE}",
                  "relay 1: delay 0, needs 240", f"hop 2: {HOP_LINE}", "fault: relay 1")

    def test_four_hops(self):
        self.told((2, 2, (HOP, UNSAFE, HOP, FAST), (240, 5, 300)), "limit 2, payloads to 2", f"hop 0: {HOP_LINE}",
                  "relay 0: delay 240, needs 240, holds 4", f"hop 1: {UNSAFE_LINE}", "relay 1: hop is not safe",
                  f"hop 2: {HOP_LINE}", "relay 2: delay 300, needs 285, holds 4", f"hop 3: {FAST_LINE}", "fault: hop 1")
        self.told((2, 2, (HOP,) * 4, (240,) * 3), "limit 2, payloads to 2", f"hop 0: {HOP_LINE}",
                  "relay 0: delay 240, needs 240, holds 3", f"hop 1: {HOP_LINE}",
                  "relay 1: delay 240, needs 240, holds 3", f"hop 2: {HOP_LINE}",
                  "relay 2: delay 240, needs 240, holds 3", f"hop 3: {HOP_LINE}", "arrives from 3440 to 3516")

    def test_no_newline_at_the_end(self):
        for chain in [(2, 2, (HOP,), ()), (2, 2, (UNSAFE,), ()), (2, 2, (HOP, HOP), (0,))]:
            self.assertFalse(report(chain).endswith("\n"))
            self.assertNotIn("\n\n", report(chain))


if __name__ == "__main__":
    unittest.main()
