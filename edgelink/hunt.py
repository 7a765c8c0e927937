"""Hunts: frames, limits, bit times and jitter that gaps and signals tell by themselves."""

from edgelink.frames import distances, read_frames, read_gaps, sums
from edgelink.receivers import ceiling
from edgelink.signals import bits_between

LEAST_LIMIT = 2
GREATEST_LIMIT = 7


def framed(limit, gaps):
    """Return for each gap whether it belongs to a frame."""
    told = [False] * len(gaps)
    for first, last, _ in read_frames(limit, gaps):
        for place in range(first, last + 1):
            told[place] = True
    return told


def strangers(limit, gaps):
    """Return the number of the gaps that belong to no frame."""
    return framed(limit, gaps).count(False)


def guesses(gaps):
    """Return the strangers, the limit and the payloads of all guesses, the best one first."""
    found = []
    for limit in range(LEAST_LIMIT, GREATEST_LIMIT + 1):
        payloads = read_gaps(limit, gaps)
        if payloads:
            found.append((strangers(limit, gaps), limit, payloads))
    return sorted(found, key=lambda guess: (guess[0], -len(guess[2]), guess[1]))


def best_limit(gaps):
    """Return the limit of the best guess, or None if there is no guess."""
    found = guesses(gaps)
    if not found:
        return None
    _, limit, _ = found[0]
    return limit


def tunings(signal):
    """Return the bit time, the limit and the payloads of all tunings of a signal, ascending."""
    if len(signal) < 2:
        return []
    times = distances(signal)
    found = []
    # Without strangers the first distance is the long gap of a flag.
    for bit_time in flag_bit_times(times[0]):
        if all([time % bit_time == 0 for time in times]):
            found += tuned(bit_time, [time // bit_time for time in times])
    return found


def flag_bit_times(time):
    """Return the bit times, ascending, with which a time is that of the long gap of a flag, for some limit."""
    sizes = range(GREATEST_LIMIT + 2, LEAST_LIMIT + 1, -1)
    return [time // bits for bits in sizes if time % bits == 0]


def tuned(bit_time, gaps):
    """Return a list of the tuning with a bit time and these gaps, an empty one if there is none."""
    # Without strangers the first gap is the long one of a flag, so it tells the limit.
    limit = gaps[0] - 2
    if not LEAST_LIMIT <= limit <= GREATEST_LIMIT or strangers(limit, gaps) > 0:
        return []
    return [(bit_time, limit, read_gaps(limit, gaps))]


def strays(signal, bit_time):
    """Return by how much each distance of edges is more than the nearest number of bit times."""
    bits = bits_between(signal, bit_time)
    return [distance - number * bit_time for distance, number in zip(distances(signal), bits)]


def jitter_seen(signal, bit_time):
    """Return the least jitter with which the edges are at the nearest numbers of bit times."""
    # How far each edge is off its place, if the first one is not.
    offsets = sums(strays(signal, bit_time))
    return ceiling(max(offsets) - min(offsets), 2)


def tunings_with_jitter(signal, least, greatest, jitter):
    """Return the bit time, limit and payloads of all tunings with a jitter, ascending."""
    if len(signal) < 2:
        return []
    found = []
    for bit_time in near_bit_times(signal[1] - signal[0], least, greatest):
        if jitter_seen(signal, bit_time) <= jitter:
            found += tuned(bit_time, bits_between(signal, bit_time))
    return found


def near_bit_times(time, least, greatest):
    """Return the bit times from least to greatest with which a time can be that of the long gap of a flag."""
    # It is read as so many bits up to half a bit to either side.
    shortest = 2 * time // (2 * GREATEST_LIMIT + 5)
    longest = 2 * time // (2 * LEAST_LIMIT + 3)
    return list(range(max(1, least, shortest), min(greatest, longest) + 1))
