"""The air, in which pieces keep their order (points [52] and [53])."""


class Air:
    """Holds the pieces of one link in one direction, in the order in which they were sent."""

    def __init__(self):
        self._pieces = []

    def send(self, piece):
        """Add a piece at the end."""
        self._pieces.append(list(piece))

    def arrive(self):
        """Remove the first piece and return it, or None if there is none."""
        return self._pieces.pop(0) if self._pieces else None

    def lose(self):
        """Remove the first piece, and return whether there was one."""
        return self.arrive() is not None

    def double(self):
        """Put a copy of the first piece directly behind it, and return whether there was one."""
        if not self._pieces:
            return False
        self._pieces.insert(1, list(self._pieces[0]))
        return True

    def pieces(self):
        """Return the pieces, in their order."""
        return [list(piece) for piece in self._pieces]

    def stop(self):
        """Remove all pieces."""
        self._pieces = []
