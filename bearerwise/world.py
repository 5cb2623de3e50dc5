"""The world: a phone, an anchor, and the stays between them (points [54] to [58])."""

from bearerwise.air import Air
from bearerwise.bills import Biller
from bearerwise.cells import DOWN, MOST_BYTES, UP, Anchor, CellEnd, End, Row
from bearerwise.checks import check_bits, is_between, is_packet
from bearerwise.counts import MAX_BITS, MIN_BITS
from bearerwise.errors import NotValid
from bearerwise.phone import Phone
from bearerwise.shares import Shares

MOST_BEARERS = 4
MOST_ROOM = 1000
ROUND_UNITS = 8
SETTLING_ROOM = 64


def _is_way(way):
    """Return whether a value is a way."""
    return is_between(way, DOWN, UP)


class World:
    """Plays acts, one after the other, and tells what went in and what came out."""

    def __init__(self, bearers, link_bits, count_bits):
        check_bits(link_bits)
        if not is_between(bearers, 1, MOST_BEARERS) or not is_between(count_bits, MIN_BITS, MAX_BITS):
            raise NotValid()
        self._bearers = bearers
        self._link_bits = link_bits
        self._count_bits = count_bits
        self._anchor = Anchor(bearers, count_bits)
        self._phone = Phone(bearers, count_bits)
        self._biller = Biller()
        # All letters to the biller that were ever written.
        self._bill_letters = []
        # By way and bearer.
        self._went_in = [[[] for _ in range(bearers)], [[] for _ in range(bearers)]]
        self._airs = [Air(), Air()]
        # By stay, then by way. Those of elder stays are forgotten when they are empty.
        self._rows = {}
        self._stay = -1
        self._begin_stay()

    def play(self, acts):
        """Play a list of acts, and return whether each one changed something."""
        return [self._play_act(act) for act in acts]

    def _play_act(self, act):
        """Play an act, and return whether it changed something."""
        match act:
            case ("down", bearer, packet):
                return self._takes(DOWN, bearer, packet)
            case ("up", bearer, packet):
                return self._takes(UP, bearer, packet)
            case ("send", way, room):
                return _is_way(way) and is_between(room, 0, MOST_ROOM) and self._send(way, room)
            case ("arrive", way):
                return _is_way(way) and self._arrive(way)
            case ("lose", way):
                return _is_way(way) and self._airs[way].lose()
            case ("double", way):
                return _is_way(way) and self._airs[way].double()
            case ("letter", stay, way):
                return is_between(stay, 0, self._stay) and _is_way(way) and self._letter_arrives(stay, way)
            case ("tick",):
                return self._tick()
            case ("stay",):
                return self._begin_stay()
            case ("write",):
                return self._write()
            case ("bill", index):
                return self._bill_arrives(index)
            case _:
                return False

    def _takes(self, way, bearer, packet):
        """Take a packet in, if its way has room for it, and return whether it had."""
        if not is_between(bearer, 0, self._bearers - 1) or not is_packet(packet, MOST_BYTES):
            return False
        is_taken = self._phone.put(bearer, packet) if way == UP else self._goes_down(bearer, packet)
        if is_taken:
            self._went_in[way][bearer].append(list(packet))
        return is_taken

    def _goes_down(self, bearer, packet):
        """Give a packet to the anchor and its letter to the row, and return whether it was taken."""
        letter = self._anchor.put(bearer, packet)
        if letter is None:
            return False
        self._rows[self._stay][DOWN].send(letter)
        return True

    def _sending_end(self, way):
        """Return the end that sends in a way."""
        return self._phone.end if way == UP else self._cell.end

    def _send(self, way, room):
        """Send a piece into the air, if there is one, and return whether there was."""
        piece = self._sending_end(way).send(room)
        if piece is None:
            return False
        self._airs[way].send(piece)
        return True

    def _arrive(self, way):
        """Let the first piece of an air arrive, and return whether there was one."""
        piece = self._airs[way].arrive()
        if piece is None:
            return False
        if way == DOWN:
            self._phone.take_piece(piece)
            return True
        for letter in self._cell.take_piece(piece):
            self._rows[self._stay][UP].send(letter)
        return True

    def _letter_arrives(self, stay, way):
        """Let the first letter of a row arrive, if it may, and return whether one did."""
        if stay not in self._rows or (way == UP and self._has_elder_letters(stay)):
            return False
        letter = self._rows[stay][way].arrive()
        if letter is None:
            return False
        if way == UP:
            self._anchor.take_letter(letter, stay)
        elif stay == self._stay:
            self._cell.take_letter(letter)
        self._forget_rows()
        return True

    def _has_elder_letters(self, stay):
        """Return whether a letter to the anchor of an elder stay than this one waits."""
        return any([not self._rows[elder][UP].is_empty() for elder in self._rows if elder < stay])

    def _forget_rows(self):
        """Forget the rows of those elder stays whose letters have all arrived."""
        for stay in list(self._rows):
            down, up = self._rows[stay]
            if stay < self._stay and down.is_empty() and up.is_empty():
                del self._rows[stay]

    def _tick(self):
        """Let one turn pass at both ends."""
        self._phone.end.tick()
        self._cell.end.tick()
        return True

    def _new_end(self, way):
        """Return a new end of the present stay, with shares of its own."""
        weights = [1 + bearer for bearer in range(self._bearers)]
        shares = Shares([1] * self._bearers, weights, ROUND_UNITS)
        return End(self._stay, way, self._link_bits, self._count_bits, shares)

    def _begin_stay(self):
        """Begin the next stay."""
        for air in self._airs:
            air.stop()
        self._stay += 1
        self._rows[self._stay] = (Row(), Row())
        self._forget_rows()
        for letter in self._anchor.begin_stay(self._phone.reports()):
            self._rows[self._stay][DOWN].send(letter)
        self._cell = CellEnd(self._new_end(DOWN), self._phone.unconfirmed_counts())
        self._phone.begin_stay(self._new_end(UP))
        return True

    def _write(self):
        """Write a letter to the biller."""
        self._bill_letters.append(self._anchor.meter.write())
        return True

    def _bill_arrives(self, index):
        """Let a letter to the biller arrive, and its answer at an even index; return if there is one."""
        if not self._bill_letters:
            return False
        answer = self._biller.take(self._bill_letters[index % len(self._bill_letters)])
        if index % 2 == 0:
            self._anchor.meter.take(answer)
        return True

    def settle(self, rounds):
        """Play at most so many rounds, and return whether in the last one nothing was left."""
        for _ in range(rounds):
            has_happened = self._play_round()
            if not has_happened and self._phone.end.is_idle() and self._cell.end.is_idle():
                return True
        return False

    def _play_round(self):
        """Play a round of settling, and return whether anything arrived or was sent."""
        happened = [self._letters_arrive(UP), self._letters_arrive(DOWN)]
        happened.extend([self._exchange(DOWN), self._exchange(UP)])
        self._tick()
        return any(happened)

    def _letters_arrive(self, way):
        """Let all letters of a way arrive, the eldest stay's first, and return whether one did."""
        has_arrived = False
        for stay in sorted(self._rows):
            while self._letter_arrives(stay, way):
                has_arrived = True
        return has_arrived

    def _exchange(self, way):
        """Send a piece and let all of this air arrive, and return whether one was sent or arrived."""
        has_happened = self._send(way, SETTLING_ROOM)
        while self._arrive(way):
            has_happened = True
        return has_happened

    def went_in(self, way, bearer):
        """Return the packets of a way and bearer that went in."""
        return [list(packet) for packet in self._went_in[way][bearer]]

    def came_out(self, way, bearer):
        """Return the packets of a way and bearer that came out."""
        return self._anchor.out(bearer) if way == UP else self._phone.out(bearer)

    def stay(self):
        """Return the number of the present stay."""
        return self._stay

    def bill(self, way, bearer):
        """Return the bill of a way and bearer."""
        return self._biller.bill(bearer, way)

    def metered(self, way, bearer):
        """Return the metered bytes of a way and bearer."""
        return self._anchor.meter.metered(bearer, way)
