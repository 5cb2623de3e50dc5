"""The sender of a link (points [12] to [16])."""

from bearerwise.checks import check_bits, is_between, is_packet
from bearerwise.errors import NotValid
from bearerwise.ranges import true_rows
from bearerwise.segments import MOST_BYTES, cut
from bearerwise.windows import read_short, window_size

PATIENCE = 4


def _rows_told(ranges, size):
    """Return (first, last) of each longest row of told indexes among the first ones."""
    told = [False] * size
    for first, last in ranges:
        for at in range(max(first, 0), min(last + 1, size)):
            told[at] = True
    return true_rows(told)


class Sender:
    """Takes packets, and sends them in segments until they are confirmed."""

    def __init__(self, bits, window):
        check_bits(bits)
        if not is_between(window, 1, window_size(bits)):
            raise NotValid()
        self.bits = bits
        self.window = window
        self.low = 0
        self.next = 0
        # By their numbers: the packets that were begun and are not confirmed, and
        # how many bytes of each were sent.
        self._begun = {}
        self._sent = {}
        self._waiting = []
        # What is to be sent again: (number, first index, index behind the last one).
        self._asked = []
        self._quiet_turns = 0
        self._has_heard = False

    def put(self, packet):
        """Take a packet."""
        if not is_packet(packet, MOST_BYTES):
            raise NotValid()
        self._waiting.append(list(packet))

    def _first_left(self):
        """Return (number, start, stop) of what is to be sent first, or None."""
        if self._asked:
            return self._asked[0]
        # A packet is begun only when none has a rest, so only the last one can have it.
        last = self.next - 1
        if last in self._begun and self._sent[last] < len(self._begun[last]):
            return (last, self._sent[last], len(self._begun[last]))
        if self._waiting and self.next < self.low + self.window:
            return (self.next, 0, len(self._waiting[0]))
        return None

    def _packet(self, number):
        """Return the packet that has this number, or gets it when it is begun."""
        return self._waiting[0] if number == self.next else self._begun[number]

    def _count_sent(self, left, end):
        """Note that what was left first has been sent up to below an index."""
        number, _, stop = left
        if self._asked:
            rest = [(number, end, stop)] if end < stop else []
            self._asked = rest + self._asked[1:]
            return
        if number == self.next:
            self._begun[number] = self._waiting.pop(0)
            self.next += 1
        self._sent[number] = end

    def send(self, room):
        """Return the next piece of at most so many bytes, or None."""
        left = self._first_left()
        if left is None:
            return None
        number, start, stop = left
        packet = self._packet(number)
        cutting = cut(self.bits, False, number, packet, start, stop, room)
        if cutting is None:
            return None
        piece, end = cutting
        self._count_sent(left, end)
        if self._first_left() is None:
            # The poll takes no room, so the same bytes fit beside it.
            piece, _ = cut(self.bits, True, number, packet, start, stop, room)
        return piece

    def has_piece(self, room):
        """Return whether sending with this room would give a piece."""
        left = self._first_left()
        if left is None:
            return False
        number, start, stop = left
        return cut(self.bits, False, number, self._packet(number), start, stop, room) is not None

    def take_status(self, upto, missing):
        """Return the numbers that a status confirms, or None if it is passed over."""
        stop = read_short(upto, self.low, 0, self.bits)
        if stop > self.next:
            return None
        told = {}
        for short_number, first, last in missing:
            number = read_short(short_number, self.low, 0, self.bits)
            told.setdefault(number, []).append((first, last))
        below = [number for number in sorted(self._begun) if number < stop]
        confirmed = [number for number in below if number not in told]
        self._forget(confirmed)
        self._asked = []
        for number in below:
            if number in told:
                self._ask(number, told[number])
        # The turn of a status is not quiet, so the quiet turns are counted anew.
        self._has_heard = True
        return confirmed

    def _forget(self, confirmed):
        """Forget the packets with these numbers, which are confirmed."""
        for number in confirmed:
            del self._begun[number]
            del self._sent[number]
        self.low = min(self._begun, default=self.next)

    def _ask(self, number, ranges):
        """Note that these ranges of a packet are to be sent again, behind what is noted."""
        for first, last in _rows_told(ranges, self._sent[number]):
            self._asked.append((number, first, last + 1))

    def tick(self):
        """Let one turn pass."""
        is_quiet = len(self._begun) > 0 and not self._has_heard and self._first_left() is None
        self._has_heard = False
        self._quiet_turns = self._quiet_turns + 1 if is_quiet else 0
        if self._quiet_turns == PATIENCE:
            self._quiet_turns = 0
            self._asked = [(self.low, 0, self._sent[self.low])]

    def unconfirmed(self):
        """Return (number, packet) of the packets that were begun and are not confirmed."""
        return [(number, list(self._begun[number])) for number in sorted(self._begun)]

    def waiting(self):
        """Return the packets that were not begun."""
        return [list(packet) for packet in self._waiting]

    def is_idle(self):
        """Return whether no packet is unconfirmed or waiting."""
        return not self._begun and not self._waiting
