"""Ends of stays, cells, and the anchor behind them (points [45] to [51])."""

from bearerwise.bills import Meter
from bearerwise.checks import is_packet
from bearerwise.counts import count_near, short_of
from bearerwise.covers import cover, uncover
from bearerwise.errors import NotValid
from bearerwise.links import Link
from bearerwise.upper import UpperReceiver, UpperSender
from bearerwise.windows import window_size

# With the short count and what a cover adds it is the greatest packet of a link.
MOST_BYTES = 196

# The two ways.
DOWN = 0
UP = 1


class End:
    """One end of a stay: a link for each bearer, which share the turns."""

    def __init__(self, stay, way, link_bits, count_bits, shares):
        bearers = range(len(shares.given()))
        self._stay = stay
        self._way = way
        self._count_bits = count_bits
        self._shares = shares
        self._links = [Link(link_bits, window_size(link_bits)) for _ in bearers]
        # How many packets were put on each link, and the counts of those that are
        # not confirmed, by their numbers on the link.
        self._added = [0 for _ in bearers]
        self._counts = [{} for _ in bearers]

    def add(self, bearer, count, packet):
        """Put a packet, covered, on the link of its bearer."""
        covered = cover(self._stay, bearer, self._way, count, packet)
        self._links[bearer].put([short_of(count, self._count_bits)] + covered)
        self._counts[bearer][self._added[bearer]] = count
        self._added[bearer] += 1

    def send(self, room):
        """Return the piece of the next turn, of at most so many bytes, or None."""
        # The bearer's number takes one byte of the room.
        left = room - 1
        bearer = self._shares.give([link.has_something(left) for link in self._links])
        if bearer is None:
            return None
        return [bearer] + self._links[bearer].send(left)

    def take(self, piece, expected):
        """Take a piece, and return (bearer, count, packet) of what is handed over by it."""
        if len(piece) == 0 or piece[0] >= len(self._links):
            return []
        bearer = piece[0]
        handed = []
        for told in self._links[bearer].take(piece[1:]):
            handed.extend(self._read(bearer, told, expected[bearer]))
        return handed

    def _read(self, bearer, told, expected):
        """Return a list of (bearer, count, packet) of a link packet; empty if it is passed over."""
        short = told[0]
        if short_of(short, self._count_bits) != short:
            return []
        count = count_near(expected, short, self._count_bits)
        if count is None:
            return []
        packet = uncover(self._stay, bearer, 1 - self._way, count, told[1:])
        if packet is None:
            return []
        return [(bearer, count, packet)]

    def confirmed(self):
        """Return (bearer, count) of what was confirmed since this was asked last."""
        told = []
        for bearer, link in enumerate(self._links):
            for number in link.confirmed():
                told.append((bearer, self._counts[bearer].pop(number)))
        return sorted(told)

    def tick(self):
        """Let one turn pass at all links."""
        for link in self._links:
            link.tick()

    def is_idle(self):
        """Return whether no link has anything to send or unconfirmed."""
        return all([link.is_idle() for link in self._links])


def _copy_of(letter):
    """Return a copy of a letter, or of a part of one, that shares no list with it."""
    if isinstance(letter, list):
        return list(letter)
    if isinstance(letter, tuple):
        return tuple([_copy_of(part) for part in letter])
    return letter


class Row:
    """A row of letters between the anchor and a cell."""

    def __init__(self):
        self._letters = []

    def send(self, letter):
        """Add a letter at the end."""
        self._letters.append(_copy_of(letter))

    def waiting(self):
        """Return the letters that have not arrived."""
        return [_copy_of(letter) for letter in self._letters]

    def is_empty(self):
        """Return whether all letters have arrived."""
        return not self._letters

    def arrive(self):
        """Remove the first letter and return it, or None if there is none."""
        return self._letters.pop(0) if self._letters else None


class Needs:
    """The counts of one bearer that a cell needs and has not handed over."""

    def __init__(self, next_count, counts):
        self._told = list(counts)
        # All counts from this one on are needed, but for those that are ahead of it.
        self._next = next_count
        self._ahead = {}

    def least(self):
        """Return the least of these counts."""
        return min(self._told + [self._next])

    def hand_over(self, count):
        """Note that a count was handed over."""
        self._told = [told for told in self._told if told != count]
        if count >= self._next:
            self._ahead[count] = True
        while self._next in self._ahead:
            del self._ahead[self._next]
            self._next += 1


class CellEnd:
    """The cell's side of a stay: its end, and what the cell needs."""

    def __init__(self, end, told):
        self.end = end
        self._needs = [Needs(next_count, counts) for next_count, counts in told]

    def take_letter(self, letter):
        """Take a letter of the anchor, and put its packet on the link."""
        _, bearer, count, packet = letter
        self.end.add(bearer, count, packet)

    def take_piece(self, piece):
        """Take a piece, and return the letters for the anchor."""
        handed = self.end.take(piece, self.expected())
        for bearer, count, _ in handed:
            self._needs[bearer].hand_over(count)
        letters = [("up", bearer, count, packet) for bearer, count, packet in handed]
        return letters + [("confirmed", bearer, count) for bearer, count in self.end.confirmed()]

    def expected(self):
        """Return the expected counts of the bearers."""
        return [needs.least() for needs in self._needs]


class Anchor:
    """The end of the net behind the cells, which stays when the cell changes."""

    def __init__(self, bearers, count_bits):
        self.meter = Meter()
        # No stay has begun; the first one is 0.
        self._stay = -1
        self._senders = [UpperSender(count_bits) for _ in range(bearers)]
        self._receivers = [UpperReceiver(count_bits) for _ in range(bearers)]
        self._out = [[] for _ in range(bearers)]

    def put(self, bearer, packet):
        """Take a packet in, and return the letter for the cell, or None if it is refused."""
        if not is_packet(packet, MOST_BYTES):
            raise NotValid()
        if not self._senders[bearer].may_add():
            return None
        count = self._senders[bearer].add(packet)
        self.meter.add(bearer, DOWN, len(packet))
        return ("down", bearer, count, list(packet))

    def begin_stay(self, told):
        """Begin the next stay with these reports, and return the letters for its cell."""
        self._stay += 1
        letters = []
        for bearer, (first, later) in enumerate(told):
            self._senders[bearer].take_report(first, later)
            letters.extend([("down", bearer, count, packet) for count, packet in self.unconfirmed(bearer)])
        return letters

    def take_letter(self, letter, stay):
        """Take a letter of the cell of a stay, and return the packets that are given out by it."""
        if letter[0] == "up":
            _, bearer, count, packet = letter
            return self._give_out(bearer, self._receivers[bearer].take_count(count, packet))
        if stay == self._stay:
            _, bearer, count = letter
            self._senders[bearer].confirm(count)
        return []

    def _give_out(self, bearer, packets):
        """Give these packets out, and return them."""
        for packet in packets:
            self.meter.add(bearer, UP, len(packet))
            self._out[bearer].append(list(packet))
        return packets

    def out(self, bearer):
        """Return all packets of a bearer that were given out."""
        return [list(packet) for packet in self._out[bearer]]

    def unconfirmed(self, bearer):
        """Return (count, packet) of the packets of a bearer that are not confirmed."""
        return self._senders[bearer].unconfirmed()
