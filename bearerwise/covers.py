"""Covers of packets on their way through the air (points [25] to [28])."""

MODULUS = 2147483647
MARK_MASK = 23205
# A mark of two bytes, and one byte for the sum.
TAIL_BYTES = 3


def row_of(key, bearer, way, count, size):
    """Return the first bytes of the row of a cover."""
    state = (key * 48271 + bearer * 69621 + way * 40692 + count * 16807 + 1) % MODULUS
    row = []
    for _ in range(size):
        state = (48271 * state + 11) % MODULUS
        row.append((state // 257) % 256)
    return row


def mark_of(key, bearer, way, count):
    """Return the two bytes that name the numbers of a cover."""
    mark = ((key % 64) * 1024 + (bearer % 4) * 256 + way * 128 + count % 128) ^ MARK_MASK
    return [mark // 256, mark % 256]


def _with_row(row, packet):
    """Return the bytes of a packet, each xor the byte of the row at its place."""
    return [one ^ other for one, other in zip(packet, row)]


def cover(key, bearer, way, count, packet):
    """Return the covered packet."""
    row = row_of(key, bearer, way, count, len(packet))
    return _with_row(row, packet) + mark_of(key, bearer, way, count) + [sum(packet) % 256]


def uncover(key, bearer, way, count, covered):
    """Return the packet, or None if it was not covered with these numbers or was changed."""
    size = len(covered) - TAIL_BYTES
    if size < 0 or covered[size:-1] != mark_of(key, bearer, way, count):
        return None
    packet = _with_row(row_of(key, bearer, way, count, size), covered[:size])
    if covered[-1] != sum(packet) % 256:
        return None
    return packet
