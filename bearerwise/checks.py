"""What arguments must be, where more than one file asks it."""

from bearerwise.errors import NotValid

LEAST_BITS = 3
GREATEST_BITS = 6


def is_between(value, least, most):
    """Return whether a value is an integer from least to most."""
    # Python takes True and False for integers; the document does not.
    return isinstance(value, int) and not isinstance(value, bool) and value >= least and value <= most


def check_bits(bits):
    """Refuse a number of bits with which no link counts (point [4])."""
    if not is_between(bits, LEAST_BITS, GREATEST_BITS):
        raise NotValid()


def is_packet(packet, most):
    """Return whether a value is a packet of at most so many bytes."""
    if not isinstance(packet, list) or not is_between(len(packet), 1, most):
        return False
    return all([is_between(one, 0, 255) for one in packet])
