"""Shares of a link, by promises and weights (points [37] to [40])."""

from bearerwise.errors import NotValid


def _are_valid(promises, weights, units):
    """Return whether these are the promises, weights and units of shares."""
    if len(promises) != len(weights) or len(promises) == 0 or units < 1:
        return False
    return min(promises) >= 0 and min(weights) >= 1 and sum(promises) <= units


class Shares:
    """Gives the units of a link to classes, round by round."""

    def __init__(self, promises, weights, units):
        if not _are_valid(promises, weights, units):
            raise NotValid()
        self._promises = list(promises)
        self._weights = list(weights)
        self._units = units
        self._credits = [0] * len(promises)
        self._begin_round()

    def _begin_round(self):
        """Begin a round, in which no unit has been given; the credits go on."""
        self._given = [0] * len(self._promises)
        self._place = 0

    def give(self, waiting):
        """Return the class that gets the next unit, or None if none has anything."""
        if len(waiting) != len(self._promises):
            raise NotValid()
        asking = [number for number, has_something in enumerate(waiting) if has_something]
        if not asking:
            return None
        promised = [number for number in asking if self._given[number] < self._promises[number]]
        chosen = promised[0] if promised else self._choose_by_credit(asking)
        self._given[chosen] += 1
        self._place += 1
        if self._place == self._units:
            self._begin_round()
        return chosen

    def _choose_by_credit(self, asking):
        """Return the class that gets a free unit; all that ask get credit, and it pays."""
        for number in asking:
            self._credits[number] += self._weights[number]
        greatest = max([self._credits[number] for number in asking])
        chosen = min([number for number in asking if self._credits[number] == greatest])
        self._credits[chosen] -= sum([self._weights[number] for number in asking])
        return chosen

    def balances(self):
        """Return the credits of the classes."""
        return list(self._credits)

    def given(self):
        """Return how many units each class has had in this round."""
        return list(self._given)

    def place(self):
        """Return how many units of this round have been given."""
        return self._place


def least_units(promise, units, n):
    """Return the least number of n units that a class gets that has something at every unit."""
    return promise * max(0, (n - units + 1) // units)


def most_units(promise, free, units, n):
    """Return the greatest number of n units that a class gets if all have something at every unit."""
    return (promise + free) * ((n + units - 2) // units + 1)
