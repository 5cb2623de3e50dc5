"""The phone, whose upper layer stays when its cell changes (points [54] to [57])."""

from bearerwise.upper import UpperReceiver, UpperSender


class Phone:
    """For each bearer an upper sender and an upper receiver, and an end of the present stay."""

    def __init__(self, bearers, count_bits):
        # No stay has begun.
        self.end = None
        self._senders = [UpperSender(count_bits) for _ in range(bearers)]
        self._receivers = [UpperReceiver(count_bits) for _ in range(bearers)]
        self._out = [[] for _ in range(bearers)]

    def put(self, bearer, packet):
        """Take a packet, if there is room in the window, and return whether there was."""
        if not self._senders[bearer].may_add():
            return False
        count = self._senders[bearer].add(packet)
        self.end.add(bearer, count, packet)
        return True

    def take_piece(self, piece):
        """Take a piece, give out what comes in its turn, and confirm what the end confirms."""
        expected = [receiver.first_missing() for receiver in self._receivers]
        for bearer, count, packet in self.end.take(piece, expected):
            self._out[bearer].extend(self._receivers[bearer].take_count(count, packet))
        for bearer, count in self.end.confirmed():
            self._senders[bearer].confirm(count)

    def reports(self):
        """Return what the anchor is told when a stay begins: a report for each bearer."""
        return [receiver.report() for receiver in self._receivers]

    def unconfirmed_counts(self):
        """Return what a new cell is told: for each bearer the next count and the unconfirmed ones."""
        return [
            (sender.next_count(), [count for count, _ in sender.unconfirmed()])
            for sender in self._senders
        ]

    def begin_stay(self, end):
        """Go on with the end of a new stay, and put all that is not confirmed on its links."""
        self.end = end
        for bearer, sender in enumerate(self._senders):
            for count, packet in sender.unconfirmed():
                end.add(bearer, count, packet)

    def out(self, bearer):
        """Return all packets of a bearer that were given out."""
        return [list(packet) for packet in self._out[bearer]]
