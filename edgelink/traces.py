"""Traces: a limit, a receiver, a phase and a signal, as a text."""

from edgelink.errors import BadTrace

LONGEST_NUMBER = 7
LAST_TIME = 1000000
MOST_EDGES = 256


def read_trace(text):
    """Return the limit, the receiver, the phase and the signal of a trace."""
    rows = rows_of(text)
    if not rows:
        raise BadTrace(last_line(text), "head is expected")
    line, words = rows[0]
    limit, receiver, phase = read_head(line, words)
    signal = []
    for line, words in rows[1:]:
        signal.append(read_edge(line, words, signal))
    return limit, receiver, phase, signal


def rows_of(text):
    """Return the number, from 1 on, and the words of each line that has words."""
    rows = [(line, words_of(told)) for line, told in enumerate(text.split("\n"), start=1)]
    return [(line, words) for line, words in rows if words]


def last_line(text):
    """Return the number of the last line, with words or without."""
    return len(text.split("\n"))


def words_of(told):
    """Return the words of a line: only spaces stand between them."""
    return [word for word in told.split(" ") if word]


def read_head(line, words):
    """Return the limit, the receiver and the phase that the head tells."""
    if len(words) != 5 or words[0] != "trace":
        raise BadTrace(line, "head is expected")
    limit = read_number(line, words[1], 2, 7)
    poll = read_number(line, words[2], 1, 50)
    polls_per_bit = read_number(line, words[3], 3, 32)
    phase = read_number(line, words[4], 0, poll - 1)
    return limit, (poll, polls_per_bit), phase


def read_edge(line, words, signal):
    """Return the time that the line of an edge tells, behind the signal that has been read."""
    if len(words) != 2 or words[0] != "edge":
        raise BadTrace(line, "line is not known")
    time = read_number(line, words[1], 0, LAST_TIME)
    if signal and time <= signal[-1]:
        raise BadTrace(line, "edge is not later")
    if len(signal) >= MOST_EDGES:
        raise BadTrace(line, "too many edges")
    return time


def read_number(line, word, least, greatest):
    """Return the number that a word of a line tells, from least to greatest."""
    if not is_number(word) or not least <= int(word) <= greatest:
        raise BadTrace(line, "number is wrong")
    return int(word)


def is_number(word):
    """Tell whether a word is some digits, not too many, without leading zeros."""
    if not word.isascii() or not word.isdigit() or len(word) > LONGEST_NUMBER:
        return False
    return word == "0" or word[0] != "0"


def write_trace(limit, receiver, phase, signal):
    """Return the trace, with one space between words and no empty lines."""
    poll, polls_per_bit = receiver
    head = f"trace {limit} {poll} {polls_per_bit} {phase}"
    return "\n".join([head] + [f"edge {time}" for time in signal])
