"""Points 3 and 4: kinds of values, arguments that stay as they are, lists that are shared with nothing."""

import unittest
from copy import deepcopy

from edgelink import (
    bits, catalogue, chains, checks, clocks, counts, design, diagnosis, errors, frames, hunt, notation, receivers,
    relays, report, signals, slips, streams, stuffing, tolerance, traces,
)

SAFE = (80, 85, 10, 20, 4)
UNSAFE = (80, 86, 10, 20, 4)
CHAIN = (2, 2, (SAFE, SAFE), (1000,))
LATE = (2, 2, (SAFE, SAFE), (0,))
LINES = ((80, 80, 0), (80, 81, 0))
ENTRIES = ((20, 4, 5), (10, 8, 9), (50, 3, 0))

# Each call of the interface that has landed: a function, and arguments for it.
CALLS = [
    (bits.bits_of, ([1, 2, 250],)),
    (bits.bytes_of, ("0110000011111111",)),
    (bits.bytes_of, ("",)),
    (checks.added, ("0011", "0101")),
    (checks.check_bits, ("1011", "110100")),
    (checks.is_intact, ("1011", "0001011")),
    (checks.pack, ("1011", [7, 255])),
    (checks.unpack, ("11", "1100000000000000" + "0")),
    (checks.burst, ("0110", "1100")),
    (checks.next_intact, ("1011", "0001011")),
    (stuffing.stuff, (2, "11011")),
    (stuffing.unstuff, (2, "1100110")),
    (stuffing.greatest_stuffing, (3, 10)),
    (stuffing.run_of_ones, ("0110111",)),
    (frames.frame_bits, (2, "0110")),
    (frames.gaps_of, ("0110010",)),
    (frames.read_gaps, (2, [4, 2, 1, 4])),
    (frames.frame_gaps, (2, "11")),
    (frames.zeros_of, ("0110010",)),
    (counts.zeros_in, (2, "1101")),
    (counts.counts, (2, 0)),
    (counts.counts, (2, 5)),
    (counts.payload_at, (2, 5, 1, 3)),
    (counts.index_of, (2, "01101")),
    (counts.mean_stuffing, (2, 5)),
    (counts.length_bounds, (2, 5)),
    (counts.payloads_by_length, (2, 5, 16)),
    (signals.signal_of, ("0100", 100, 10, (1, -1))),
    (signals.bits_between, ([0, 12, 25], 10)),
    (signals.merged, ([1, 5], [5, 7])),
    (signals.merged, ([1, 5], [])),
    (signals.merged, ([], [1, 5])),
    (signals.level_at, ([1, 5], 3)),
    (receivers.detection_polls, ((1, 3), 0, [1, 5])),
    (receivers.gap_bits, ((20, 4), 7)),
    (receivers.received_gaps, ((1, 3), 0, [1, 5, 9])),
    (receivers.receive, (2, (1, 3), 0, [0, 12, 15, 27])),
    (receivers.detection_time, ((20, 4), 3, 7)),
    (traces.read_trace, ("trace 2 20 4 3\nedge 5\nedge 80",)),
    (traces.write_trace, (2, (20, 4), 3, [5, 80])),
    (tolerance.margin, (SAFE, 3)),
    (tolerance.margins, (2, SAFE)),
    (tolerance.is_safe, (2, SAFE)),
    (tolerance.safe_bit_times, (2, (20, 4), 10)),
    (tolerance.greatest_jitter, (2, SAFE)),
    (tolerance.longest_gap, (SAFE,)),
    (tolerance.misreading, (2, SAFE)),
    (tolerance.misreading, (2, UNSAFE)),
    (relays.relay_signal, ((10, 4), 0, 100, 50, (1, -1), [30, 70, 150])),
    (relays.relay_signal, ((10, 4), 0, 0, 10, (), [30, 70, 150])),
    (relays.relay_signal, ((10, 4), 0, 0, 10, (), [])),
    (relays.least_delay, (2, 2, SAFE, UNSAFE)),
    (relays.buffer_depth, (2, 2, SAFE, UNSAFE, 1000)),
    (relays.backlogs, ((10, 4), 0, 100, 50, [30, 70, 150])),
    (chains.least_delays, (2, 2, [SAFE, SAFE])),
    (chains.chain_fault, (LATE,)),
    (chains.transmit, (CHAIN, "01", [(80, (1, -1), 0), (85, (), 3)])),
    (chains.transmit, (LATE, "01", [(80, (1, -1), 0), (85, (), 3)])),
    (chains.failure, (LATE,)),
    (chains.failure, (CHAIN,)),
    (design.receivers_for, (2, 80, 80, 15)),
    (design.slowest_receiver, (2, 80, 80, 15)),
    (design.greatest_limit, (SAFE,)),
    (design.weakest, (2, SAFE)),
    (design.total_delay, (2, 2, [SAFE, SAFE])),
    (design.arrival, (CHAIN, "01")),
    (design.spread, (CHAIN, "01")),
    (report.report, (CHAIN,)),
    (clocks.measured, ((20, 4), 0, [4, 8, 12], [1, 1], 3)),
    (clocks.measured, ((20, 4), 0, [4, 8, 20], [1, 1], 0)),
    (clocks.barring, ((20, 4), 0, [4, 8, 20], [1, 1], 0)),
    (clocks.explained, ((20, 4), 0, [4, 8, 12], [1, 1], 3, 80)),
    (clocks.is_barred, ((20, 4), 0, [4, 8, 20], [1, 1], 0, ((1, 2), (0, 1)))),
    (streams.stream_bits, (2, ["", "01"], (3,))),
    (streams.frame_places, (2, ["", "01"], (3,))),
    (streams.frame_places, (2, [""], ())),
    (streams.stream_signal, (2, ["", "01"], (3,), 100, 10, (1, -1))),
    (streams.least_idle, (2, SAFE)),
    (streams.runs_into, (2, 1)),
    (streams.frame_of_edge, (2, ["", "01"], (3,))),
    (streams.untouched, (2, ["", "01"], (3,), [5, 1])),
    (streams.untouched, (2, ["", "01"], (3,), [])),
    (streams.latest_start, (2, ["", "01"], (3,), SAFE, 5000)),
    (hunt.framed, (2, [4, 1, 4, 1])),
    (hunt.framed, (2, [])),
    (hunt.strangers, (2, [4, 1, 4, 1])),
    (hunt.guesses, ([4, 1, 4, 5, 1, 5],)),
    (hunt.best_limit, ([4, 1, 4, 5, 1, 5],)),
    (hunt.best_limit, ([4, 1, 1],)),
    (hunt.tunings, ([2000, 2320, 2400, 2720],)),
    (hunt.tunings, ([2000],)),
    (hunt.strays, ([2000, 2317, 2403], 80)),
    (hunt.jitter_seen, ([2000, 2317, 2403], 80)),
    (hunt.tunings_with_jitter, ([2000, 2317, 2403, 2720], 40, 100, 5)),
    (catalogue.cheapest, (2, 2, LINES, ENTRIES, 3)),
    (catalogue.cheapest, (2, 2, LINES, ENTRIES[2:], 3)),
    (catalogue.cheapest_of_limits, (7, LINES, ENTRIES, 3)),
    (catalogue.choices, (2, LINES, ENTRIES)),
    (catalogue.chain_of, (2, 2, LINES, ENTRIES, [0, 1])),
    (catalogue.frontier, (2, 2, LINES, ENTRIES)),
    (notation.read_chain, ("chain 2 2\nhop 80 85 10 20 4",)),
    (notation.write_chain, (CHAIN,)),
    (slips.slips, (2, "01")),
    (slips.harmless, (2, "01")),
    (slips.lost, (2, "01")),
    (slips.silent, (6, "11", [252, 128])),
    (slips.missed, (6, "11", [252, 128])),
    (slips.slips_of_two, (2, "01")),
    (diagnosis.diagnosis, ([4, 1, 2, 1, 4], [4, 5, 4])),
    (diagnosis.diagnosis, ([4, 1, 2, 1, 4], [4, 5])),
    (diagnosis.is_diagnosis, ([4, 1, 4], [9], (1, ((1, 2),), ()))),
    (diagnosis.after, ([4, 1, 2, 1, 4], ((2, 3),), ((0, 1),))),
    (diagnosis.after, ([4, 1, 4], (), ())),
]

# The only function beside those called is_.. that tells True or False.
TELLING = "framed"


def kinds(value):
    """Return the kinds of a value and of its items."""
    if isinstance(value, (list, tuple)):
        return {type(value)}.union(*[kinds(item) for item in value])
    return {type(value)}


class UnchangedTest(unittest.TestCase):
    def test_arguments_stay_as_they_are(self):
        for function, arguments in CALLS:
            given = deepcopy(arguments)
            function(*given)
            self.assertEqual(given, arguments, function.__name__)

    def test_a_returned_list_is_shared_with_nothing(self):
        for function, arguments in CALLS:
            given = deepcopy(arguments)
            first = function(*given)
            kept = deepcopy(first)
            if isinstance(first, list):
                first.append("more")
                first[:1] = ["other"]
            self.assertEqual(given, arguments, function.__name__)
            self.assertEqual(function(*given), kept, function.__name__)

    def test_a_passed_list_is_shared_with_nothing(self):
        for function, arguments in CALLS:
            given = deepcopy(arguments)
            found = function(*given)
            kept = deepcopy(found)
            for argument in given:
                if isinstance(argument, list):
                    argument.clear()
            self.assertEqual(found, kept, function.__name__)

    def test_refused_arguments_stay_as_they_are(self):
        shifts = [0, -30]
        self.assertRaises(errors.Refused, signals.signal_of, "00", 100, 10, shifts)
        self.assertEqual(shifts, [0, -30])
        hops = [SAFE, UNSAFE]
        self.assertRaises(errors.Refused, chains.least_delays, 2, 2, hops)
        self.assertEqual(hops, [SAFE, UNSAFE])
        numbers = [2, 0]
        self.assertRaises(errors.Refused, catalogue.chain_of, 2, 2, LINES, ENTRIES, numbers)
        self.assertEqual(numbers, [2, 0])
        polls, between = [8, 4], [0]
        self.assertRaises(errors.Refused, clocks.measured, (20, 4), 0, polls, between, 0)
        self.assertEqual((polls, between), ([8, 4], [0]))

    def test_lists_within_what_is_returned_are_shared_with_nothing(self):
        limit, receiver, phase, signal = traces.read_trace("trace 2 20 4 3\nedge 5")
        signal.append(6)
        self.assertEqual(traces.read_trace("trace 2 20 4 3\nedge 5")[3], [5])
        plays = [(80, (), 0), (80, (), 0)]
        sent, _, received = chains.transmit(CHAIN, "01", plays)
        kept = deepcopy(sent)
        sent[0].clear()
        received.append("more")
        self.assertEqual(sent[1], kept[1])
        self.assertEqual(chains.transmit(CHAIN, "01", plays), (kept, None, ["01"]))
        _, plays, _ = chains.failure(LATE)
        kept = deepcopy(plays)
        plays.clear()
        self.assertEqual(chains.failure(LATE)[1], kept)
        guess = hunt.guesses([4, 1, 4])[0]
        guess[2].append("more")
        self.assertEqual(hunt.guesses([4, 1, 4]), [(0, 2, [""])])
        _, numbers, delays = catalogue.cheapest(2, 2, LINES, ENTRIES, 0)
        numbers.append(5)
        delays.clear()
        self.assertEqual(catalogue.cheapest(2, 2, LINES, ENTRIES, 0), (10, [0, 0], [240]))
        found = catalogue.choices(2, LINES, ENTRIES)
        found[0].append(5)
        self.assertEqual(found[1:], catalogue.choices(2, LINES, ENTRIES)[1:])
        slips.slips(2, "")[3][2].append("more")
        self.assertEqual(slips.slips(2, "")[3], (1, 1, ["1"]))
        misread = tolerance.misreading(2, UNSAFE)
        misread[4].append("more")
        self.assertEqual(tolerance.misreading(2, UNSAFE)[4], [])

    def test_values_are_of_the_kinds_of_the_interface(self):
        for function, arguments in CALLS:
            found = kinds(function(*deepcopy(arguments)))
            self.assertLessEqual(found, {int, str, bool, list, tuple, type(None)}, function.__name__)
            if function.__name__.startswith("is_"):
                self.assertEqual(found, {bool}, function.__name__)
            elif function.__name__ != TELLING:
                self.assertNotIn(bool, found, function.__name__)


if __name__ == "__main__":
    unittest.main()
