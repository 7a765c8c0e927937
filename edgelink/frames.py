"""Flags, frames, and the gaps between zeros."""

from edgelink.stuffing import stuff


def flag(limit):
    """Return the flag: it has a run of ones that no stuffed bits have."""
    return "0" + "1" * (limit + 1) + "0"


def frame_bits(limit, payload):
    """Return the frame of a payload."""
    return flag(limit) + stuff(limit, payload) + flag(limit)


def zeros_of(bits):
    """Return the ascending places of the zeros."""
    return [place for place, bit in enumerate(bits) if bit == "0"]


def distances(numbers):
    """Return the distances of numbers that follow one another."""
    return [later - earlier for earlier, later in zip(numbers, numbers[1:])]


def sums(numbers):
    """Return 0, and the sums of the first number, of the first two, and so on."""
    found = [0]
    for number in numbers:
        found.append(found[-1] + number)
    return found


def gaps_of(bits):
    """Return the distances of zeros that follow one another."""
    return distances(zeros_of(bits))


def frame_gaps(limit, payload):
    """Return the gaps of the frame of a payload."""
    return gaps_of(frame_bits(limit, payload))


def read_gaps(limit, gaps):
    """Return the payloads that are complete when the gaps are read one by one."""
    return [payload for _, _, payload in read_frames(limit, gaps)]


def read_frames(limit, gaps):
    """Return the first and the last gap, and the payload, of each frame that is complete when the gaps are read."""
    complete = []
    payload = None
    first = 0
    before = 0
    for place, gap in enumerate(gaps):
        if gap != limit + 2:
            payload = read_on(limit, payload, gap)
        else:
            if payload is not None and 1 <= before <= limit:
                # The last zero is the first bit of this flag.
                complete.append((first, place, payload[:-1]))
            payload = ""
            first = place
        before = gap
    return complete


def read_on(limit, payload, gap):
    """Return the payload that is being read behind a gap within it, None if none is."""
    if payload is None or gap < 1 or gap > limit + 1:
        return None
    if gap == limit + 1:
        # The zero behind so many ones was inserted.
        return payload + "1" * limit
    return payload + "1" * (gap - 1) + "0"
