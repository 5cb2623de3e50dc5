"""Numbers in few bits, and the plays that show which windows are safe (points [8] to [11])."""


def window_size(bits):
    """Return the greatest number of packets that may be on their way at once."""
    return 1 << (bits - 1)


def short(number, bits):
    """Return the short number of a true number."""
    return number % (1 << bits)


def distance(base, value, bits):
    """Return how far a short number lies above a true number."""
    return (value - base) % (1 << bits)


def read_short(value, base, behind, bits):
    """Return the only true number from base - behind on that a short number stands for."""
    least = base - behind
    return least + distance(least, value, bits)


class NumberPlay:
    """A play of numbers: its sender, its receiver and the two ways between them."""

    def __init__(self, bits, window):
        self.bits = bits
        self.window = window
        self.base = 0
        self.next = 0
        self.low = 0
        self.ahead = {}
        # True numbers stand in the air and on the way back, so that a wrong reading
        # can be told. Whoever reads them looks at their short numbers alone.
        self.air = []
        self.back = []
        self.wrong_numbers = []
        self.wrong_lows = []

    def send(self, number):
        """Send a number, if it is in the window and not above the next one."""
        if number < self.base or number > self.next or number >= self.base + self.window:
            return
        self.air.append(number)
        if number == self.next:
            self.next += 1

    def come(self):
        """Let the first number in the air come to the receiver."""
        number = self.air.pop(0)
        far = distance(self.low, short(number, self.bits), self.bits)
        if far >= self.window:
            return
        read = self.low + far
        if read != number:
            self.wrong_numbers.append((number, read))
        self.ahead[read] = True
        while self.low in self.ahead:
            del self.ahead[self.low]
            self.low += 1

    def hear(self):
        """Let the first low end on the way back come to the sender."""
        low = self.back.pop(0)
        read = self.base + distance(self.base, short(low, self.bits), self.bits)
        if read > self.next:
            return
        if read != low:
            self.wrong_lows.append((low, read))
        self.base = read

    def act(self, act):
        """Play one act; one for which nothing is there changes nothing."""
        word = act[0]
        if word == "send":
            self.send(act[1])
        elif word == "tell":
            self.back.append(self.low)
        elif word == "come" and self.air:
            self.come()
        elif word == "lose" and self.air:
            self.air.pop(0)
        elif word == "double" and self.air:
            self.air.insert(1, self.air[0])
        elif word == "hear" and self.back:
            self.hear()
        elif word == "miss" and self.back:
            self.back.pop(0)


def play_numbers(bits, window, acts):
    """Return the numbers and the low ends that were read wrongly in a play."""
    play = NumberPlay(bits, window)
    for act in acts:
        play.act(act)
    return (play.wrong_numbers, play.wrong_lows)


def fooling(bits):
    """Return the acts of a play that fools a window one greater than the safe one."""
    window = window_size(bits) + 1
    sent = [("send", number) for number in range(window)]
    return sent + [("come",)] * window + [("send", 0), ("come",)]
