"""Points 37 and 38: strangers, guesses, tunings, strays, and the jitter that is seen."""

import unittest
from itertools import product
from random import Random

from edgelink.frames import frame_bits, frame_gaps
from edgelink.hunt import (
    best_limit, framed, guesses, jitter_seen, strangers, strays, tunings, tunings_with_jitter,
)
from edgelink.signals import signal_of
from edgelink.streams import stream_signal
from samples import LIMITS, some_bits


def told_frames(limit, gaps):
    """Return the first and the last gap, and the payload, of each frame, from one flag to the next one."""
    flags = [place for place, gap in enumerate(gaps) if gap == limit + 2]
    found = []
    for first, last in zip(flags, flags[1:]):
        within = gaps[first + 1:last]
        if within and all(1 <= gap <= limit + 1 for gap in within) and within[-1] <= limit:
            bits = "".join("1" * (gap - 1) + "0" if gap <= limit else "1" * limit for gap in within)
            found.append((first, last, bits[:-1]))
    return found


def told_strangers(limit, gaps):
    """Return the number of the gaps that no frame has."""
    frames = told_frames(limit, gaps)
    return sum(1 for place in range(len(gaps)) if not any(first <= place <= last for first, last, _ in frames))


def told_payloads(limit, gaps):
    """Return the payloads of the frames."""
    return [payload for _, _, payload in told_frames(limit, gaps)]


def some_gaps(random):
    """Return gaps, most of them of whole frames."""
    gaps = []
    for _ in range(random.randint(0, 5)):
        limit = random.choice([2, 2, 3, 3, random.randint(2, 7)])
        frame = frame_gaps(limit, some_bits(random.random(), random.randint(0, 6), ones=2))
        if random.random() < 0.3:
            frame[random.randrange(len(frame))] += random.choice([-1, 1])
        if gaps and gaps[-1] == frame[0] and random.random() < 0.5:
            frame = frame[1:]
        idle = [random.randint(-1, 10) for _ in range(random.choice([0, 0, 1, 2]))]
        gaps += idle + frame
    return gaps[random.choice([0, 0, 1]):len(gaps) - random.choice([0, 0, 1])]


def nearest(distance, bit_time):
    """Return the nearest number of bit times to a distance, of two the greater one."""
    return max(range(distance // bit_time + 2), key=lambda many: (-abs(distance - many * bit_time), many))


def nearest_gaps(signal, bit_time):
    """Return the nearest numbers of bit times."""
    return [nearest(later - earlier, bit_time) for earlier, later in zip(signal, signal[1:])]


def is_seen(signal, bit_time, jitter):
    """Tell whether a jitter is enough, by trying all starts."""
    gaps = nearest_gaps(signal, bit_time)
    places = [sum(gaps[:edge]) for edge in range(len(signal))]
    starts = range(signal[0] - jitter, signal[0] + jitter + 1)
    return any(all(abs(edge - start - place * bit_time) <= jitter for edge, place in zip(signal, places))
               for start in starts)


def told_jitter(signal, bit_time):
    """Return the least jitter that is enough, by trying one by one."""
    jitter = 0
    while not is_seen(signal, bit_time, jitter):
        jitter += 1
    return jitter


def told_tunings(signal):
    """Return all tunings, by trying all bit times and limits."""
    times = [later - earlier for earlier, later in zip(signal, signal[1:])]
    found = []
    for bit_time, limit in product(range(1, max(times) + 1), LIMITS):
        gaps = [time // bit_time for time in times]
        if all(time % bit_time == 0 for time in times) and told_strangers(limit, gaps) == 0:
            found.append((bit_time, limit, told_payloads(limit, gaps)))
    return found


def some_signal(random, jitter):
    """Return a short signal, often that of one or two frames."""
    limit, bit_time = random.randint(2, 7), random.randint(3 * jitter + 1, 3 * jitter + 12)
    payloads = [some_bits(random.random(), random.randint(0, 5)) for _ in range(random.randint(1, 2))]
    idles = tuple(random.randint(0, 3) for _ in payloads[1:])
    shifts = tuple(random.randint(-jitter, jitter) for _ in range(40))
    signal = stream_signal(limit, payloads, idles, 100, bit_time, shifts)
    return signal[random.choice([0, 0, 0, 1]):]


class FramedTest(unittest.TestCase):
    def told(self, limit, gaps, expected):
        self.assertEqual(framed(limit, gaps), [sign == "x" for sign in expected], gaps)
        self.assertEqual(strangers(limit, gaps), expected.count("."), gaps)

    def test_one_frame(self):
        self.told(2, [4, 1, 4], "xxx")
        self.told(2, [4, 1, 3, 1, 1, 4], "xxxxxx")
        self.told(7, [9, 7, 8, 3, 9], "xxxxx")

    def test_flag_of_two_frames(self):
        self.told(2, [4, 1, 4, 2, 4], "xxxxx")
        self.told(3, [5, 2, 5, 4, 2, 5, 1, 5], "xxxxxxxx")

    def test_flags_without_a_frame(self):
        self.told(2, [4, 4], "..")
        self.told(2, [4, 4, 1, 4, 4], ".xxx.")
        self.told(2, [4], ".")

    def test_idle_gaps(self):
        self.told(2, [4, 1, 4, 1, 7, 4, 1, 4], "xxx..xxx")
        self.told(2, [9, 4, 1, 4, 5, 5, 4, 2, 1, 4, 2], ".xxx..xxxx.")
        # Gaps that could be of a frame, but of which none is complete.
        self.told(2, [4, 1, 4, 1, 1, 1], "xxx...")

    def test_frame_that_is_cut_off(self):
        self.told(2, [1, 2, 4, 1, 4], "..xxx")
        self.told(2, [4, 1, 4, 1, 2], "xxx..")
        self.told(2, [1, 2, 4], "...")
        self.told(2, [4, 2, 1], "...")

    def test_flag_behind_the_gap_of_limit_and_1(self):
        self.told(2, [4, 3, 4], "...")
        self.told(2, [4, 1, 3, 4, 1, 4], "...xxx")
        self.told(2, [4, 1, 4, 3, 4], "xxx..")
        self.told(2, [4, 3, 1, 4], "xxxx")

    def test_gaps_of_0_and_less(self):
        self.told(2, [4, 0, 4], "...")
        self.told(2, [4, -1, 1, 4], "....")
        self.told(2, [0, 4, 1, 4, -4], ".xxx.")
        self.told(2, [4, 1, 0, 4, 1, 4], "...xxx")

    def test_longer_gaps(self):
        self.told(2, [4, 5, 4], "...")
        self.told(2, [4, 5, 1, 4], "....")
        self.told(2, [4, 100, 4, 1, 4], "..xxx")

    def test_no_gaps(self):
        self.told(2, [], "")

    def test_a_new_list(self):
        gaps = [4, 1, 4]
        framed(2, gaps).append(False)
        self.assertEqual((framed(2, gaps), gaps), ([True, True, True], [4, 1, 4]))

    def test_some_gaps(self):
        random = Random(37)
        for _ in range(600):
            gaps = some_gaps(random)
            for limit in LIMITS:
                frames = told_frames(limit, gaps)
                expected = [any(first <= place <= last for first, last, _ in frames) for place in range(len(gaps))]
                self.assertEqual(framed(limit, gaps), expected, gaps)
                self.assertEqual(strangers(limit, gaps), told_strangers(limit, gaps), gaps)

    def test_all_gaps_of_some_lengths(self):
        for many in range(6):
            for gaps in product(range(6), repeat=many):
                self.assertEqual(strangers(2, list(gaps)), told_strangers(2, gaps), gaps)


class GuessesTest(unittest.TestCase):
    def told(self, gaps, expected):
        self.assertEqual(guesses(gaps), expected, gaps)
        self.assertEqual(best_limit(gaps), expected[0][1] if expected else None, gaps)

    def test_none(self):
        self.told([], [])
        self.told([4], [])
        self.told([4, 3, 4], [])
        self.told([3, 1, 3], [])
        self.told([10, 1, 10], [])
        self.assertIsNone(best_limit([1, 2, 3]))

    def test_one_limit(self):
        self.told([4, 1, 4], [(0, 2, [""])])
        self.told([9, 1, 9], [(0, 7, [""])])
        self.told([7, 6, 5, 7, 1], [(1, 5, ["1" * 5 + "1" * 4])])

    def test_fewest_strangers_first(self):
        self.told([5, 1, 1, 5, 4, 1, 4], [(3, 3, ["0"]), (4, 2, [""])])
        self.told([5, 1, 5, 4, 1, 1, 4], [(3, 2, ["0"]), (4, 3, [""])])
        # Fewer strangers, though fewer payloads.
        self.told([5, 1, 1, 1, 1, 5, 4, 1, 4, 1, 4], [(5, 3, ["000"]), (6, 2, ["", ""])])

    def test_most_payloads_of_as_few_strangers(self):
        self.told([5, 1, 5, 1, 5, 4, 1, 1, 1, 4], [(5, 3, ["", ""]), (5, 2, ["00"])])
        self.told([4, 1, 4, 1, 4, 5, 1, 1, 1, 5], [(5, 2, ["", ""]), (5, 3, ["00"])])

    def test_least_limit_of_as_many_payloads(self):
        self.told([5, 1, 5, 4, 1, 4], [(3, 2, [""]), (3, 3, [""])])
        self.told([9, 1, 9, 6, 1, 6, 8, 1, 8], [(6, 4, [""]), (6, 6, [""]), (6, 7, [""])])

    def test_payloads_are_those_of_the_limit(self):
        self.told([5, 4, 1, 4, 1, 5], [(0, 3, ["1110111"]), (3, 2, [""])])

    def test_some_gaps(self):
        random = Random(38)
        many = 0
        for _ in range(600):
            gaps = some_gaps(random)
            expected = [(told_strangers(limit, gaps), limit, told_payloads(limit, gaps)) for limit in LIMITS]
            expected = [guess for guess in expected if guess[2]]
            expected.sort(key=lambda guess: (guess[0], -len(guess[2]), guess[1]))
            many += len(expected) > 1
            self.told(gaps, expected)
        self.assertGreater(many, 100)


class TuningsTest(unittest.TestCase):
    def test_one_frame(self):
        # Gaps of 4, 1 and 4 bits, or of 8, 2 and 8.
        self.assertEqual(tunings([2000, 2320, 2400, 2720]), [(40, 6, ["1"]), (80, 2, [""])])
        self.assertEqual(tunings([0, 9, 10, 19]), [(1, 7, [""])])
        self.assertEqual(tunings([0, 4, 5, 6, 10]), [(1, 2, ["0"])])

    def test_two_frames(self):
        signal = stream_signal(2, ["01", "1"], (0,), 100, 10, ())
        self.assertEqual(tunings(signal), [(5, 6, ["10111", "1", "111"]), (10, 2, ["01", "", "1"])])
        # With two idles there is a gap of 3 bits before the flag, and no frame for the limit 2.
        signal = stream_signal(2, ["01", "1"], (2,), 100, 10, ())
        self.assertEqual(tunings(signal), [(5, 6, ["10111", "11111", "111"])])
        # The flag of one is that of the next one: gaps of 4, 1, 4, 2, 4 bits.
        self.assertEqual(tunings([0, 12, 15, 27, 33, 45]), [(3, 2, ["", "1"])])
        self.assertEqual(tunings([0, 24, 30, 54, 66, 90]), [(3, 6, ["1", "111"]), (6, 2, ["", "1"])])

    def test_frames_of_a_stream_whose_idles_are_a_payload(self):
        # Between the flags of two frames without idles there is a gap of 1 bit: a frame of the payload "".
        signal = stream_signal(3, ["0", "00"], (0,), 0, 7, ())
        self.assertEqual(tunings(signal), [(7, 3, ["0", "", "00"])])

    def test_none(self):
        self.assertEqual(tunings([0, 4]), [])
        self.assertEqual(tunings([0, 4, 7]), [])
        self.assertEqual(tunings([0, 4, 7, 11]), [])
        self.assertEqual(tunings([0, 80, 160]), [])
        self.assertEqual(tunings([0, 320, 400, 721]), [])
        self.assertEqual(tunings([0, 1, 2, 3]), [])
        self.assertEqual(tunings([0, 10, 11, 21]), [])

    def test_no_stranger_behind_the_last_frame(self):
        self.assertEqual(tunings([0, 40, 50, 90, 100]), [])
        self.assertEqual(tunings([0, 10, 50, 60, 100]), [])

    def test_fewer_than_two_edges(self):
        self.assertEqual(tunings([]), [])
        self.assertEqual(tunings([7]), [])

    def test_bit_time_that_divides_only_the_first_distance(self):
        self.assertEqual(tunings([0, 36, 43, 79]), [])
        self.assertEqual(tunings([0, 36, 45, 81]), [(9, 2, [""])])

    def test_against_all_bit_times_and_limits(self):
        random = Random(39)
        many = 0
        for _ in range(150):
            signal = some_signal(random, random.choice([0, 0, 0, 1]))
            expected = told_tunings(signal)
            many += len(expected) > 1
            self.assertEqual(tunings(signal), expected, signal)
        self.assertGreater(many, 5)

    def test_all_small_distances(self):
        for times in product(range(1, 10), repeat=3):
            signal = [0, times[0], sum(times[:2]), sum(times)]
            self.assertEqual(tunings(signal), told_tunings(signal), signal)

    def test_long_signal(self):
        payload = some_bits(7, 200)
        signal = signal_of(frame_bits(5, payload), 2000, 2000, ())
        self.assertIn((2000, 5, [payload]), tunings(signal))


class StraysTest(unittest.TestCase):
    def test_below_0_and_above(self):
        self.assertEqual(strays([0, 83, 160, 318], 80), [3, -3, -2])
        self.assertEqual(strays([5, 85, 165], 80), [0, 0])

    def test_half_a_bit_time_is_rounded_up(self):
        self.assertEqual(strays([0, 120], 80), [-40])
        self.assertEqual(strays([0, 119], 80), [39])
        self.assertEqual(strays([0, 40], 80), [-40])
        self.assertEqual(strays([0, 39], 80), [39])
        self.assertEqual(strays([0, 7, 15, 17], 5), [2, -2, 2])
        self.assertEqual(strays([0, 1, 3], 1), [0, 0])

    def test_fewer_than_two_edges(self):
        self.assertEqual(strays([], 80), [])
        self.assertEqual(strays([7], 80), [])

    def test_some_signals(self):
        random = Random(40)
        for _ in range(200):
            signal = sorted(random.sample(range(300), random.randint(1, 12)))
            bit_time = random.randint(1, 30)
            times = [later - earlier for earlier, later in zip(signal, signal[1:])]
            expected = [time - bit_time * nearest(time, bit_time) for time in times]
            self.assertEqual(strays(signal, bit_time), expected, (signal, bit_time))


class JitterSeenTest(unittest.TestCase):
    def test_none_and_one_edge(self):
        self.assertEqual(jitter_seen([], 80), 0)
        self.assertEqual(jitter_seen([7], 80), 0)
        self.assertEqual(jitter_seen([0], 1), 0)

    def test_odd_and_even_sums(self):
        self.assertEqual(jitter_seen([0, 80], 80), 0)
        self.assertEqual(jitter_seen([0, 81], 80), 1)
        self.assertEqual(jitter_seen([0, 82], 80), 1)
        self.assertEqual(jitter_seen([0, 83], 80), 2)
        self.assertEqual(jitter_seen([0, 79], 80), 1)
        self.assertEqual(jitter_seen([0, 78], 80), 1)
        self.assertEqual(jitter_seen([0, 77], 80), 2)
        # 3 late, then 3 early: between 3 and -3.
        self.assertEqual(jitter_seen([0, 83, 157], 80), 3)

    def test_strays_add_up(self):
        self.assertEqual(jitter_seen([0, 82, 164, 246], 80), 3)
        self.assertEqual(jitter_seen([0, 82, 160, 242], 80), 1)
        self.assertEqual(jitter_seen([0, 78, 164], 80), 3)

    def test_half_a_bit_time(self):
        self.assertEqual(jitter_seen([0, 120], 80), 20)
        self.assertEqual(jitter_seen([0, 119], 80), 20)
        self.assertEqual(jitter_seen([0, 20], 80), 10)

    def test_against_trying_all_starts(self):
        random = Random(41)
        for _ in range(200):
            signal = sorted(random.sample(range(120), random.randint(1, 8)))
            bit_time = random.randint(1, 20)
            self.assertEqual(jitter_seen(signal, bit_time), told_jitter(signal, bit_time), (signal, bit_time))

    def test_is_not_more_than_the_jitter_of_the_signal(self):
        random = Random(42)
        for _ in range(100):
            shifts = tuple(random.randint(-9, 9) for _ in range(60))
            signal = signal_of(frame_bits(4, some_bits(random.random(), 60)), 100, 80, shifts)
            self.assertLessEqual(jitter_seen(signal, 80), 9)


class TuningsWithJitterTest(unittest.TestCase):
    SIGNAL = [2003, 2317, 2403, 2720]  # Strays of -6, 6 and -3 for a bit time of 80: a jitter of 3.

    def test_jitter_that_is_just_enough(self):
        self.assertEqual(jitter_seen(self.SIGNAL, 80), 3)
        self.assertEqual(tunings_with_jitter(self.SIGNAL, 80, 80, 3), [(80, 2, [""])])
        self.assertEqual(tunings_with_jitter(self.SIGNAL, 80, 80, 2), [])
        self.assertEqual(tunings_with_jitter(self.SIGNAL, 80, 80, 500), [(80, 2, [""])])

    def test_ranges_of_bit_times(self):
        clear = [2000, 2320, 2400, 2720]
        self.assertEqual(tunings_with_jitter(clear, 1, 2000, 0), [(40, 6, ["1"]), (80, 2, [""])])
        self.assertEqual(tunings_with_jitter(clear, 40, 80, 0), [(40, 6, ["1"]), (80, 2, [""])])
        self.assertEqual(tunings_with_jitter(clear, 41, 80, 0), [(80, 2, [""])])
        self.assertEqual(tunings_with_jitter(clear, 40, 79, 0), [(40, 6, ["1"])])
        self.assertEqual(tunings_with_jitter(clear, 41, 79, 0), [])
        self.assertEqual(tunings_with_jitter(clear, 79, 81, 5), [(79, 2, [""]), (80, 2, [""]), (81, 2, [""])])
        self.assertEqual(tunings_with_jitter(clear, 79, 81, 4), [(80, 2, [""])])
        self.assertEqual(tunings_with_jitter(clear, 81, 80, 5), [])

    def test_bit_times_begin_with_1(self):
        self.assertEqual(tunings_with_jitter([0, 4, 5, 9], 1, 1, 0), [(1, 2, [""])])
        self.assertEqual(tunings_with_jitter([0, 4, 5, 9], -3, 1, 0), [(1, 2, [""])])
        self.assertEqual(tunings_with_jitter([0, 4, 5, 9], -3, 0, 0), [])

    def test_half_a_bit_to_either_side(self):
        # 2 * 320 / 7 is 91, 2 * 320 / 19 is 33: between them the first gap is 4 to 9 bits.
        signal = [0, 320, 400, 720]
        found = [bit_time for bit_time, _, _ in tunings_with_jitter(signal, 1, 2000, 500)]
        self.assertEqual((min(found), max(found)), (34, 91))
        signal = [0, 35, 45, 80]
        found = [bit_time for bit_time, _, _ in tunings_with_jitter(signal, 1, 2000, 500)]
        self.assertEqual(max(found), 10)

    def test_fewer_than_two_edges(self):
        self.assertEqual(tunings_with_jitter([], 1, 100, 5), [])
        self.assertEqual(tunings_with_jitter([7], 1, 100, 5), [])

    def test_strangers(self):
        self.assertEqual(tunings_with_jitter([0, 320, 400, 720, 800], 80, 80, 0), [])
        self.assertEqual(tunings_with_jitter([0, 320, 400, 560], 80, 80, 0), [])

    def test_against_all_bit_times_and_limits(self):
        random = Random(43)
        many = 0
        for _ in range(120):
            signal = some_signal(random, random.randint(0, 3))
            least, jitter = random.randint(1, 20), random.randint(0, 4)
            greatest = least + random.randint(0, 20)
            expected = []
            for bit_time, limit in product(range(least, greatest + 1), LIMITS):
                gaps = nearest_gaps(signal, bit_time)
                if is_seen(signal, bit_time, jitter) and told_strangers(limit, gaps) == 0:
                    expected.append((bit_time, limit, told_payloads(limit, gaps)))
            many += len(expected) > 1
            self.assertEqual(tunings_with_jitter(signal, least, greatest, jitter), expected, signal)
        self.assertGreater(many, 5)


if __name__ == "__main__":
    unittest.main()
