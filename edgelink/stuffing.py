"""Stuffing: a zero behind every run of as many ones as the limit."""


def stuff(limit, bits):
    """Return the stuffed bits."""
    # replace() goes on behind what it has found, as ones are counted anew behind an inserted zero.
    return bits.replace("1" * limit, "1" * limit + "0")


def unstuff(limit, bits):
    """Return the bits whose stuffing these are, or None if there are none."""
    shorter = bits.replace("1" * limit + "0", "1" * limit)
    # Runs that are too long, and a zero that is missing at the end, come out otherwise.
    if stuff(limit, shorter) != bits:
        return None
    return shorter


def greatest_stuffing(limit, count):
    """Return how many zeros are inserted at most into so many bits."""
    return count // limit


def run_of_ones(bits):
    """Return the length of the longest run of ones, 0 if there is none."""
    return max([len(run) for run in bits.split("0")])
