"""The meter of an anchor, and the biller to which it writes (points [41] to [44])."""


class Meter:
    """Meters the bytes of each bearer and way, and writes letters about them."""

    def __init__(self):
        # By (bearer, way): all bytes since the beginning. None of the sums is 0.
        self._sums = {}
        self._last = None
        self._answered = 0
        self._has_more = False

    def add(self, bearer, way, size):
        """Meter a packet of so many bytes."""
        if size > 0:
            self._sums[(bearer, way)] = self.metered(bearer, way) + size
            self._has_more = True

    def metered(self, bearer, way):
        """Return the bytes so far."""
        return self._sums.get((bearer, way), 0)

    def _last_serial(self):
        """Return the serial of the last letter, 0 if there is none."""
        return 0 if self._last is None else self._last[0]

    def write(self):
        """Write a letter with the next serial, and return it."""
        sums = tuple([(bearer, way, self._sums[(bearer, way)]) for bearer, way in sorted(self._sums)])
        self._last = (self._last_serial() + 1, sums)
        self._has_more = False
        return self._last

    def last(self):
        """Return the last letter, or None."""
        return self._last

    def take(self, serial):
        """Take an answer of the biller."""
        self._answered = max(self._answered, serial)

    def is_settled(self):
        """Return whether the last letter was answered and holds all that was metered."""
        return self._answered == self._last_serial() and not self._has_more


class Biller:
    """Keeps the newest letter that has come, and bills by it."""

    def __init__(self):
        self._serial = 0
        self._bills = {}

    def take(self, letter):
        """Take a letter, and return the greatest serial that has come."""
        serial, sums = letter
        if serial > self._serial:
            self._serial = serial
            self._bills = {(bearer, way): size for bearer, way, size in sums}
        return self._serial

    def bill(self, bearer, way):
        """Return the bill of a bearer and a way."""
        return self._bills.get((bearer, way), 0)
