"""The upper layer, which keeps packets in order through all changes of cells (points [32] to [36])."""

from bearerwise.counts import count_near, window
from bearerwise.errors import NotValid


def _in_order(packets):
    """Return (count, packet) of packets that are kept by their counts, ascending."""
    return [(count, list(packets[count])) for count in sorted(packets)]


class UpperSender:
    """Gives counts to the packets of one bearer and way, and keeps them until they are confirmed."""

    def __init__(self, bits):
        self._bits = bits
        self._next = 0
        self._packets = {}

    def may_add(self):
        """Return whether a packet may be taken."""
        return self._next - self.base() < window(self._bits)

    def add(self, packet):
        """Take a packet and return its count."""
        if not self.may_add():
            raise NotValid()
        count = self._next
        self._packets[count] = list(packet)
        self._next += 1
        return count

    def next_count(self):
        """Return the count that is given next."""
        return self._next

    def base(self):
        """Return the first unconfirmed count, or the next one if there is none."""
        return min(self._packets, default=self._next)

    def unconfirmed(self):
        """Return (count, packet) of the packets that are not confirmed."""
        return _in_order(self._packets)

    def confirm(self, count):
        """Confirm a count; one that is confirmed or was never given changes nothing."""
        if count in self._packets:
            del self._packets[count]

    def take_report(self, first, later):
        """Confirm all counts below the first missing one, and the later ones that have come."""
        for count in list(self._packets):
            if count < first or count in later:
                del self._packets[count]


class UpperReceiver:
    """Takes the packets of one bearer and way in any order, and gives them out in theirs."""

    def __init__(self, bits):
        self._bits = bits
        self._first = 0
        self._ahead = {}

    def first_missing(self):
        """Return the first count whose packet has not come."""
        return self._first

    def take(self, short, packet):
        """Take a packet with its short count, and return the packets that are given out by it."""
        count = count_near(self._first, short, self._bits)
        if count is None:
            return []
        return self.take_count(count, packet)

    def take_count(self, count, packet):
        """Take a packet with its count, and return the packets that are given out by it."""
        if count < self._first or count in self._ahead:
            return []
        self._ahead[count] = list(packet)
        given = []
        while self._first in self._ahead:
            given.append(self._ahead.pop(self._first))
            self._first += 1
        return given

    def report(self):
        """Return the first missing count and the greater counts that have come."""
        return (self._first, sorted(self._ahead))

    def held(self):
        """Return (count, packet) of the packets that have come ahead of their turn."""
        return _in_order(self._ahead)
