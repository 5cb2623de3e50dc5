"""Counts of packets, and the few bits of them that go through the air (points [29] to [31])."""

from bearerwise.windows import read_short, window_size

MIN_BITS = 4
MAX_BITS = 7


def short_of(count, bits):
    """Return the short count of a count."""
    return count % (1 << bits)


def window(bits):
    """Return the greatest number of packets of a sender that may be unconfirmed."""
    return window_size(bits)


def count_near(expected, short, bits):
    """Return the count nearest to the expected one that a short count stands for, or None."""
    count = read_short(short, expected, window(bits), bits)
    return None if count < 0 else count


def count_from(first, short, bits):
    """Return the least count from the first one on that a short count stands for."""
    return read_short(short, first, 0, bits)
