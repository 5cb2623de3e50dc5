"""Pieces, which go through the air, and the cutting of packets (points [4] to [7])."""

from bearerwise.errors import NotValid
from bearerwise.fields import field_bytes, pack, unpack
from bearerwise.windows import short

MOST_BYTES = 200
MOST_MISSING = 8

DATA = 0
STATUS = 1

WHOLE = 0
BEGINNING = 1
END = 2
WITHIN = 3


def _has_offset(part):
    """Return whether a data piece of this part tells its offset."""
    return part == END or part == WITHIN


def _data_widths(bits, part):
    """Return the widths of the fields of a data piece."""
    if _has_offset(part):
        return [1, 1, bits, 2, 8]
    return [1, 1, bits, 2]


def _status_head(bits):
    """Return the widths of the fields ahead of the missing ranges."""
    return [1, bits, 4]


def _range_widths(bits):
    """Return the widths of the fields of one missing range."""
    return [bits, 8, 8]


def data_piece(bits, poll, number, part, offset, body):
    """Return the data piece with these bytes of a packet."""
    values = [DATA, 1 if poll else 0, short(number, bits), part]
    if _has_offset(part):
        values.append(offset)
    return pack(_data_widths(bits, part), values) + body


def status_piece(bits, upto, missing):
    """Return the status piece that tells these missing ranges."""
    if len(missing) > MOST_MISSING:
        raise NotValid()
    widths = _status_head(bits)
    values = [STATUS, short(upto, bits), len(missing)]
    for number, first, last in missing:
        widths.extend(_range_widths(bits))
        values.extend([short(number, bits), first, last])
    return pack(widths, values)


def status_bytes(bits, count):
    """Return the number of bytes of a status piece with so many missing ranges."""
    # One field of all the bits takes as many bytes, and no list grows with the count.
    return field_bytes([sum(_status_head(bits)) + count * sum(_range_widths(bits))])


def _read_data(bits, piece):
    """Return the parts of a data piece, or None if it is none."""
    # The part tells how long the head is, and stands in the head of every part.
    widths = _data_widths(bits, WHOLE)
    if len(piece) < field_bytes(widths):
        return None
    _, poll, number, part = unpack(widths, piece)
    widths = _data_widths(bits, part)
    size = field_bytes(widths)
    if len(piece) <= size:
        return None
    offset = unpack(widths, piece)[4] if _has_offset(part) else 0
    return ("data", poll == 1, number, part, offset, piece[size:])


def _read_status(bits, piece):
    """Return the parts of a status piece, or None if it is none."""
    widths = _status_head(bits)
    if len(piece) < field_bytes(widths):
        return None
    _, upto, count = unpack(widths, piece)
    if count > MOST_MISSING or len(piece) != status_bytes(bits, count):
        return None
    told = unpack(widths + _range_widths(bits) * count, piece)[3:]
    missing = [(told[at], told[at + 1], told[at + 2]) for at in range(0, len(told), 3)]
    return ("status", upto, missing)


def read_piece(bits, piece):
    """Return the parts of a piece, or None if the list of bytes is none."""
    if len(piece) == 0:
        return None
    if unpack([1], piece)[0] == DATA:
        return _read_data(bits, piece)
    return _read_status(bits, piece)


def _part_of(packet, start, end):
    """Return the part of a packet that has its bytes from start to below end."""
    if start == 0:
        return WHOLE if end == len(packet) else BEGINNING
    return END if end == len(packet) else WITHIN


def cut(bits, poll, number, packet, start, stop, room):
    """Return the data piece with as many bytes as fit, and the index behind them."""
    # Whether a head has the offset depends on the start alone, so that the size
    # of the head is known before the end of the piece.
    head = field_bytes(_data_widths(bits, BEGINNING if start == 0 else WITHIN))
    end = min(stop, len(packet), start + room - head)
    if end <= start:
        return None
    part = _part_of(packet, start, end)
    return (data_piece(bits, poll, number, part, start, packet[start:end]), end)
