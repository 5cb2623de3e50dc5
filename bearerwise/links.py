"""Links: a sender and a receiver on one side of a connection (points [23] and [24])."""

from bearerwise.errors import Broken
from bearerwise.receiver import Receiver
from bearerwise.segments import read_piece
from bearerwise.sender import Sender


class Link:
    """One side of a connection by the air."""

    def __init__(self, bits, window):
        self.sender = Sender(bits, window)
        self.receiver = Receiver(bits)
        self._confirmed = []

    def put(self, packet):
        """Take a packet that is to go out."""
        self.sender.put(packet)

    def send(self, room):
        """Return a piece of at most so many bytes, or None."""
        status = self.receiver.status(room)
        if status is not None:
            return status
        return self.sender.send(room)

    def has_something(self, room):
        """Return whether sending with this room would give a piece."""
        return self.receiver.has_status(room) or self.sender.has_piece(room)

    def take(self, piece):
        """Take a piece, and return the packets that are whole by it, none or one."""
        parts = read_piece(self.sender.bits, piece)
        if parts is None:
            return []
        if parts[0] == "data":
            return self._take_data(piece)
        _, upto, missing = parts
        confirmed = self.sender.take_status(upto, missing)
        if confirmed is not None:
            self._confirmed.extend(confirmed)
        return []

    def _take_data(self, piece):
        """Give a data piece to the receiver, and return the packets that are whole by it."""
        try:
            whole = self.receiver.take(piece)
        except Broken:
            return []
        if whole is None:
            return []
        _, packet = whole
        return [packet]

    def confirmed(self):
        """Return the numbers that were confirmed since this was asked last."""
        confirmed = self._confirmed
        self._confirmed = []
        return confirmed

    def tick(self):
        """Let one turn pass for the sender."""
        self.sender.tick()

    def is_idle(self):
        """Return whether all packets are confirmed and no status is due."""
        return self.sender.is_idle() and not self.receiver.is_due()
