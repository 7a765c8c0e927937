"""The names of the interface: each stands in its own file, with its own arguments."""

import unittest
from importlib import import_module
from inspect import isclass, signature
from pathlib import Path

FUNCTIONS = {
    "bits": {"bits_of": "numbers", "bytes_of": "bits"},
    "checks": {
        "added": "one two", "check_bits": "generator bits", "is_intact": "generator bits",
        "pack": "generator numbers", "unpack": "generator bits", "burst": "one two", "next_intact": "generator bits",
    },
    "stuffing": {
        "stuff": "limit bits", "unstuff": "limit bits", "greatest_stuffing": "limit count", "run_of_ones": "bits",
    },
    "frames": {
        "frame_bits": "limit payload", "gaps_of": "bits", "read_gaps": "limit gaps", "frame_gaps": "limit payload",
        "zeros_of": "bits",
    },
    "counts": {
        "zeros_in": "limit payload", "counts": "limit size", "payload_at": "limit size zeros index",
        "index_of": "limit payload", "mean_stuffing": "limit size", "length_bounds": "limit size",
        "payloads_by_length": "limit size length",
    },
    "signals": {
        "signal_of": "bits start bit_time shifts", "bits_between": "signal bit_time", "merged": "one two",
        "level_at": "signal time",
    },
    "receivers": {
        "detection_polls": "receiver phase signal", "gap_bits": "receiver polls",
        "received_gaps": "receiver phase signal", "receive": "limit receiver phase signal",
        "detection_time": "receiver phase number",
    },
    "traces": {"read_trace": "text", "write_trace": "limit receiver phase signal"},
    "tolerance": {
        "margin": "hop gap", "margins": "limit hop", "is_safe": "limit hop", "safe_bit_times": "limit receiver jitter",
        "greatest_jitter": "limit hop", "longest_gap": "hop", "misreading": "limit hop",
    },
    "relays": {
        "relay_signal": "receiver phase delay bit_time shifts signal", "least_delay": "limit payload_most hop later",
        "buffer_depth": "limit payload_most hop later delay", "backlogs": "receiver phase delay bit_time signal",
    },
    "chains": {
        "least_delays": "limit payload_most hops", "chain_fault": "chain", "transmit": "chain payload plays",
        "failure": "chain",
    },
    "design": {
        "receivers_for": "limit least greatest jitter", "slowest_receiver": "limit least greatest jitter",
        "greatest_limit": "hop", "weakest": "limit hop", "total_delay": "limit payload_most hops",
        "arrival": "chain payload", "spread": "chain payload",
    },
    "report": {"report": "chain"},
    "clocks": {
        "measured": "receiver phase polls bits jitter", "barring": "receiver phase polls bits jitter",
        "explained": "receiver phase polls bits jitter bit_time",
        "is_barred": "receiver phase polls bits jitter pairs",
    },
    "streams": {
        "stream_bits": "limit payloads idles", "frame_places": "limit payloads idles",
        "stream_signal": "limit payloads idles start bit_time shifts", "least_idle": "limit hop",
        "runs_into": "limit idle", "frame_of_edge": "limit payloads idles", "untouched": "limit payloads idles edges",
        "latest_start": "limit payloads idles hop most",
    },
    "hunt": {
        "framed": "limit gaps", "strangers": "limit gaps", "guesses": "gaps", "best_limit": "gaps",
        "tunings": "signal", "strays": "signal bit_time", "jitter_seen": "signal bit_time",
        "tunings_with_jitter": "signal least greatest jitter",
    },
    "catalogue": {
        "cheapest": "limit payload_most lines catalogue price",
        "cheapest_of_limits": "payload_most lines catalogue price", "choices": "limit lines catalogue",
        "chain_of": "limit payload_most lines catalogue numbers", "frontier": "limit payload_most lines catalogue",
    },
    "notation": {"read_chain": "text", "write_chain": "chain"},
    "slips": {
        "slips": "limit payload", "harmless": "limit payload", "lost": "limit payload",
        "silent": "limit generator numbers", "missed": "limit generator numbers", "slips_of_two": "limit payload",
    },
    "diagnosis": {
        "diagnosis": "sent received", "is_diagnosis": "sent received told", "after": "sent lost slips",
    },
    "monitor": {"opened": "state"},
}

# The methods of each class, with what stands behind self; each is defined in the class itself.
CLASSES = {
    "errors": {"LinkError": {}, "Refused": {"__init__": "what"}, "BadTrace": {"__init__": "line what"}},
    "monitor": {
        "Monitor": {
            "__init__": "limit receiver phase", "edge_count": "", "edge": "time", "feed": "times", "undo": "",
            "edges": "", "gaps": "", "payloads": "", "history": "", "state": "",
        },
    },
    "talks": {
        "Talk": {
            "__init__": "window generator", "queue": "letter", "send": "", "deliver": "way", "lose": "way place",
            "repeat": "way place", "damage": "way place first pattern", "line": "way", "taken": "", "known": "",
            "finish": "",
        },
    },
    "posts": {
        "Post": {
            "__init__": "window generator there back", "room": "", "queue": "letter", "send": "", "line": "way",
            "taken": "", "known": "", "deliver": "way plays", "finish": "plays_there plays_back rounds",
        },
    },
}



def arguments(called):
    """Return the names of the arguments, one space between them."""
    return " ".join(signature(called).parameters)


class InterfaceTest(unittest.TestCase):
    def test_functions(self):
        for file, functions in FUNCTIONS.items():
            module = import_module(f"edgelink.{file}")
            for name, expected in functions.items():
                function = getattr(module, name)
                self.assertEqual(function.__module__, module.__name__)
                self.assertEqual(arguments(function), expected, name)

    def test_classes(self):
        for file, classes in CLASSES.items():
            module = import_module(f"edgelink.{file}")
            for name, methods in classes.items():
                found = getattr(module, name)
                self.assertTrue(isclass(found))
                self.assertEqual(found.__module__, module.__name__)
                for method, expected in methods.items():
                    self.assertEqual(arguments(vars(found)[method]), f"self {expected}".strip(), f"{name} {method}")

    def test_every_file_is_told(self):
        package = import_module("edgelink")
        files = {file.stem for file in Path(package.__file__).parent.glob("*.py")}
        self.assertEqual(files, {"__init__", *FUNCTIONS, *CLASSES})


if __name__ == "__main__":
    unittest.main()
