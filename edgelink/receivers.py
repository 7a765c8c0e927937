"""Receivers: polls that detect edges, and how their distances are read."""

from edgelink.frames import distances, read_gaps


def ceiling(number, divisor):
    """Return the quotient of two numbers, rounded up."""
    return -(-number // divisor)


def detection_time(receiver, phase, number):
    """Return the time of a poll."""
    poll, _ = receiver
    return phase + number * poll


def poll_behind(receiver, phase, time):
    """Return the number of the first poll that is not before a time."""
    poll, _ = receiver
    return max(0, ceiling(time - phase, poll))


def detection_polls(receiver, phase, signal):
    """Return the numbers of the polls that detect an edge."""
    polls = []
    for time in signal:
        number = poll_behind(receiver, phase, time)
        # Two edges that come to the same poll cannot be seen there.
        if polls and polls[-1] == number:
            polls.pop()
        else:
            polls.append(number)
    return polls


def gap_bits(receiver, polls):
    """Return the number of bits as which a distance of so many polls is read."""
    _, polls_per_bit = receiver
    # The least number of bits whose upper bound is not below the distance.
    return ceiling(2 * polls - polls_per_bit, 2 * polls_per_bit)


def most_polls(receiver, bits):
    """Return the greatest distance, in polls, that is read as no more than so many bits."""
    _, polls_per_bit = receiver
    return (2 * bits + 1) * polls_per_bit // 2


def received_gaps(receiver, phase, signal):
    """Return the distances of detections that follow one another, as they are read."""
    return [gap_bits(receiver, polls) for polls in distances(detection_polls(receiver, phase, signal))]


def receive(limit, receiver, phase, signal):
    """Return the payloads that are received."""
    return read_gaps(limit, received_gaps(receiver, phase, signal))
