"""Small numbers side by side in bytes (point [3])."""

from bearerwise.errors import NotValid


def field_bytes(widths):
    """Return the number of bytes for fields of these widths."""
    for width in widths:
        if width < 1:
            raise NotValid()
    return (sum(widths) + 7) // 8


def pack(widths, values):
    """Return the list of bytes with these values in fields of these widths."""
    if len(widths) != len(values):
        raise NotValid()
    size = field_bytes(widths)
    row = 0
    for width, value in zip(widths, values):
        if value < 0 or value >= 1 << width:
            raise NotValid()
        row = (row << width) + value
    row = row << (8 * size - sum(widths))
    return [(row >> (8 * (size - 1 - at))) & 255 for at in range(size)]


def unpack(widths, data):
    """Return the list of the values in the fields at the beginning of the bytes."""
    size = field_bytes(widths)
    if len(data) < size:
        raise NotValid()
    row = 0
    for one in data[:size]:
        row = (row << 8) + one
    unread = 8 * size
    values = []
    for width in widths:
        unread = unread - width
        values.append((row >> unread) & ((1 << width) - 1))
    return values
