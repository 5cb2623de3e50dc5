"""The receiver of a link (points [17] to [22])."""

from bearerwise.checks import check_bits
from bearerwise.errors import Broken
from bearerwise.ranges import true_rows
from bearerwise.segments import END, MOST_BYTES, MOST_MISSING, WHOLE, read_piece, status_bytes, status_piece
from bearerwise.windows import read_short, window_size

# The last missing byte that is told while the end of a packet is not known.
NO_END = 255


class Gathering:
    """What has come of a packet that is not whole."""

    def __init__(self):
        self.came = {}
        self.length = None

    def fits(self, start, stop, is_end):
        """Return whether the bytes from start to below stop agree with what has come."""
        if not is_end:
            return self.length is None or stop < self.length
        if self.length is not None and self.length != stop:
            return False
        return max(self.came, default=-1) < stop

    def gather(self, start, body, is_end):
        """Keep these bytes, from the index start on; what came first stays."""
        for at, one in enumerate(body):
            self.came.setdefault(start + at, one)
        if is_end:
            self.length = start + len(body)

    def is_whole(self):
        """Return whether the length is known and all bytes have come."""
        return self.length is not None and len(self.came) == self.length

    def packet(self):
        """Return the packet, which is whole."""
        return [self.came[at] for at in range(self.length)]

    def missing(self):
        """Return (first, last) of each longest row of bytes that have not come."""
        size = NO_END + 1 if self.length is None else self.length
        return true_rows([at not in self.came for at in range(size)])


class Receiver:
    """Takes the data pieces of one link, and tells what is missing."""

    def __init__(self, bits):
        check_bits(bits)
        self.bits = bits
        self.low = 0
        self._gatherings = {}
        # The numbers above the low end whose packets are whole.
        self._whole = {}
        self._due = False

    def take(self, piece):
        """Return (number, packet) if a packet is whole by this piece, otherwise None."""
        parts = read_piece(self.bits, piece)
        if parts is None or parts[0] != "data":
            raise Broken()
        _, poll, short_number, part, start, body = parts
        if start + len(body) > MOST_BYTES:
            raise Broken()
        number = read_short(short_number, self.low, window_size(self.bits), self.bits)
        whole = None
        if number >= self.low and number not in self._whole:
            whole = self._gather(number, start, body, part == WHOLE or part == END)
        # Not earlier, as a broken piece makes no status due.
        if poll:
            self._due = True
        return whole

    def _gather(self, number, start, body, is_end):
        """Keep the bytes of a packet, and return it with its number if it is whole."""
        gathering = self._gatherings.get(number, Gathering())
        if not gathering.fits(start, start + len(body), is_end):
            raise Broken()
        gathering.gather(start, body, is_end)
        self._gatherings[number] = gathering
        if not gathering.is_whole():
            return None
        del self._gatherings[number]
        self._whole[number] = True
        while self.low in self._whole:
            del self._whole[self.low]
            self.low += 1
        return (number, gathering.packet())

    def is_due(self):
        """Return whether a status is due."""
        return self._due

    def _missing(self, number):
        """Return the missing ranges of one packet."""
        if number in self._whole:
            return []
        if number not in self._gatherings:
            return [(number, 0, NO_END)]
        return [(number, first, last) for first, last in self._gatherings[number].missing()]

    def report(self, most):
        """Return (upto, missing) with at most so many missing ranges."""
        last = max(list(self._gatherings) + list(self._whole), default=-1)
        upto = max(self.low, last + 1)
        missing = []
        for number in range(self.low, upto):
            ranges = self._missing(number)
            if len(missing) + len(ranges) > most:
                return (number, missing)
            missing.extend(ranges)
        return (upto, missing)

    def has_status(self, room):
        """Return whether a status would be made with this room."""
        return self._due and status_bytes(self.bits, 0) <= room

    def status(self, room):
        """Return the status piece if one is due and fits into the room, otherwise None."""
        if not self.has_status(room):
            return None
        most = 0
        while most < MOST_MISSING and status_bytes(self.bits, most + 1) <= room:
            most += 1
        upto, missing = self.report(most)
        self._due = False
        return status_piece(self.bits, upto, missing)

    def kept(self):
        """Return the numbers of the packets that are kept."""
        return sorted(self._gatherings)
