"""The bits of bytes: eight binary digits each, the lowest one first."""

BYTE_SIZE = 8


def bits_of(numbers):
    """Return the bits of bytes, one byte behind the other."""
    return "".join([byte_bits(number) for number in numbers])


def byte_bits(number):
    """Return the eight bits of one byte."""
    return "".join([str(number >> place & 1) for place in range(BYTE_SIZE)])


def bytes_of(bits):
    """Return the bytes whose bits these are, or None if they are no whole bytes."""
    if len(bits) % BYTE_SIZE != 0:
        return None
    starts = range(0, len(bits), BYTE_SIZE)
    return [byte_of(bits[start:start + BYTE_SIZE]) for start in starts]


def byte_of(bits):
    """Return the byte whose eight bits these are."""
    return sum([1 << place for place, bit in enumerate(bits) if bit == "1"])
