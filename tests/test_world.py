"""Points [54] to [58]: the world."""

import copy
import random
import unittest

from bearerwise.air import Air
from bearerwise.bills import Biller
from bearerwise.cells import Anchor, CellEnd, End, Row
from bearerwise.errors import NotValid
from bearerwise.shares import Shares
from bearerwise.upper import UpperReceiver, UpperSender
from bearerwise.world import World
from helpers import frozen, some_act

DOWN, UP = 0, 1
FAR = 10 ** 9


class PlainWorld:
    """A world put together from its parts, by the words of points [54] to [58]."""

    def __init__(self, bearers, link_bits, count_bits):
        self.bearers, self.link_bits, self.count_bits = bearers, link_bits, count_bits
        self.anchor, self.biller = Anchor(bearers, count_bits), Biller()
        self.senders = [UpperSender(count_bits) for _ in range(bearers)]
        self.receivers = [UpperReceiver(count_bits) for _ in range(bearers)]
        self.airs = {DOWN: Air(), UP: Air()}
        self.rows = []
        self.letters = []
        self.went = {(way, bearer): [] for way in (DOWN, UP) for bearer in range(bearers)}
        self.came = {(way, bearer): [] for way in (DOWN, UP) for bearer in range(bearers)}
        self.ends = {}
        self.act_stay()

    def act_stay(self):
        stay = len(self.rows)
        for air in self.airs.values():
            air.stop()
        self.rows.append((Row(), Row()))
        for letter in self.anchor.begin_stay([receiver.report() for receiver in self.receivers]):
            self.rows[stay][DOWN].send(letter)
        for way in (DOWN, UP):
            shares = Shares([1] * self.bearers, list(range(1, self.bearers + 1)), 8)
            self.ends[way] = End(stay, way, self.link_bits, self.count_bits, shares)
        told = [(sender.next_count(), [count for count, _ in sender.unconfirmed()]) for sender in self.senders]
        self.cell = CellEnd(self.ends[DOWN], told)
        for bearer, sender in enumerate(self.senders):
            for count, packet in sender.unconfirmed():
                self.ends[UP].add(bearer, count, packet)
        return True

    def act_down(self, bearer, packet):
        letter = self.anchor.put(bearer, packet)
        if letter is None:
            return False
        self.rows[-1][DOWN].send(letter)
        self.went[DOWN, bearer].append(list(packet))
        return True

    def act_up(self, bearer, packet):
        if not self.senders[bearer].may_add():
            return False
        self.ends[UP].add(bearer, self.senders[bearer].add(packet), packet)
        self.went[UP, bearer].append(list(packet))
        return True

    def act_send(self, way, room):
        piece = self.ends[way].send(room)
        if piece is not None:
            self.airs[way].send(piece)
        return piece is not None

    def act_arrive(self, way):
        piece = self.airs[way].arrive()
        if piece is not None and way == UP:
            for letter in self.cell.take_piece(piece):
                self.rows[-1][UP].send(letter)
        elif piece is not None:
            expected = [receiver.first_missing() for receiver in self.receivers]
            for bearer, count, packet in self.ends[UP].take(piece, expected):
                self.came[DOWN, bearer] += self.receivers[bearer].take_count(count, packet)
            for bearer, count in self.ends[UP].confirmed():
                self.senders[bearer].confirm(count)
        return piece is not None

    def act_lose(self, way):
        return self.airs[way].lose()

    def act_double(self, way):
        return self.airs[way].double()

    def act_letter(self, stay, way):
        if way == UP and any(rows[UP].waiting() for rows in self.rows[:stay]):
            return False
        letter = self.rows[stay][way].arrive()
        if letter is not None and way == UP:
            self.came[UP, letter[1]] += self.anchor.take_letter(letter, stay)
        elif letter is not None and stay == len(self.rows) - 1:
            self.cell.take_letter(letter)
        return letter is not None

    def act_tick(self):
        self.ends[DOWN].tick()
        self.ends[UP].tick()
        return True

    def act_write(self):
        self.letters.append(self.anchor.meter.write())
        return True

    def act_bill(self, index):
        if not self.letters:
            return False
        answer = self.biller.take(self.letters[index % len(self.letters)])
        if index % 2 == 0:
            self.anchor.meter.take(answer)
        return True

    def act(self, act):
        return getattr(self, "act_" + act[0])(*act[1:])

    def settle(self, rounds):
        for _ in range(rounds):
            happened = False
            for way in (UP, DOWN):
                for stay in range(len(self.rows)):
                    while self.act_letter(stay, way):
                        happened = True
            for way in (DOWN, UP):
                if self.act_send(way, 64):
                    happened = True
                while self.act_arrive(way):
                    happened = True
            self.act_tick()
            if not happened and self.ends[DOWN].is_idle() and self.ends[UP].is_idle():
                return True
        return False

    def seen(self):
        keys = [(way, bearer) for way in (DOWN, UP) for bearer in range(self.bearers)]
        return [
            len(self.rows) - 1, [self.went[key] for key in keys], [self.came[key] for key in keys],
            [self.anchor.meter.metered(bearer, way) for way, bearer in keys],
            [self.biller.bill(bearer, way) for way, bearer in keys],
        ]


def seen_of(world, bearers):
    """All that a world tells."""
    keys = [(way, bearer) for way in (DOWN, UP) for bearer in range(bearers)]
    return [world.stay()] + [
        [ask(*key) for key in keys] for ask in (world.went_in, world.came_out, world.metered, world.bill)
    ]


def bring(way, stay=0):
    """The acts by which one packet of the phone or the anchor crosses the air."""
    if way == DOWN:
        return [("letter", stay, DOWN), ("send", DOWN, 250), ("arrive", DOWN)]
    return [("send", UP, 250), ("arrive", UP), ("letter", stay, UP)]


class WorldCase(unittest.TestCase):
    def plays(self, world, *acts):
        """Play acts, each of which changes something."""
        for act in acts:
            self.assertEqual(world.play([act]), [True], msg=act)

    def passes_over(self, world, *acts):
        """Play acts that change nothing."""
        before = frozen(world)
        for act in acts:
            told = world.play([act])
            self.assertEqual(len(told), 1)
            self.assertIs(told[0], False, msg=act)
            self.assertEqual(frozen(world), before, msg=act)


class MakingTest(unittest.TestCase):
    def test_at_first(self):
        world = World(2, 4, 4)
        self.assertEqual(seen_of(world, 2), [0, [[]] * 4, [[]] * 4, [0] * 4, [0] * 4])

    def test_the_bounds(self):
        for bearers in (1, 4):
            for link_bits in (3, 6):
                for count_bits in (4, 7):
                    self.assertEqual(World(bearers, link_bits, count_bits).stay(), 0)

    def test_other_numbers_are_refused(self):
        for numbers in (
            (0, 4, 4), (-1, 4, 4), (5, 4, 4), (1, 2, 4), (1, 7, 4), (1, 0, 4), (1, 4, 3), (1, 4, 8), (1, 4, 0),
            (FAR, 4, 4), (1, -3, 4), (1, 4, -4),
        ):
            with self.assertRaises(NotValid, msg=numbers):
                World(*numbers)

    def test_the_windows_are_those_of_the_bits(self):
        for link_bits in (3, 4, 5, 6):
            world = World(1, link_bits, 7)
            world.play([("up", 0, [1])] * 70)
            self.assertEqual(world.play([("send", UP, 64)] * 70).count(True), 2 ** (link_bits - 1))
        for count_bits in (4, 5, 6, 7):
            for word in ("up", "down"):
                world = World(1, 3, count_bits)
                self.assertEqual(world.play([(word, 0, [1])] * 70).count(True), 2 ** (count_bits - 1))

    def test_the_shares(self):
        # A unit of its promise for each bearer, then the free ones of eight by the weights 1, 2 and 3.
        rounds = [0, 1, 2, 2, 1, 0, 2, 1, 0, 1, 2, 2, 2, 1, 0, 2]
        for way, word in ((DOWN, "down"), (UP, "up")):
            world, row = World(3, 4, 5), []
            world.play([(word, bearer, [1]) for bearer in range(3) for _ in range(8)] + [("letter", 0, DOWN)] * 24)
            for _ in rounds:
                before = [len(world.came_out(way, bearer)) for bearer in range(3)]
                world.play([("send", way, 64), ("arrive", way), ("letter", 0, UP)])
                after = [len(world.came_out(way, bearer)) for bearer in range(3)]
                row += [bearer for bearer in range(3) if after[bearer] > before[bearer]]
            self.assertEqual(row, rounds)


class ActsTest(WorldCase):
    def test_down(self):
        world = World(2, 4, 4)
        self.plays(world, ("down", 1, [1, 2]))
        self.assertEqual((world.went_in(DOWN, 1), world.went_in(DOWN, 0)), ([[1, 2]], []))
        self.assertEqual((world.metered(DOWN, 1), world.metered(UP, 1)), (2, 0))
        self.assertEqual(world.came_out(DOWN, 1), [])
        self.plays(world, *bring(DOWN))
        self.assertEqual((world.came_out(DOWN, 1), world.came_out(DOWN, 0)), ([[1, 2]], []))

    def test_up(self):
        world = World(2, 4, 4)
        self.plays(world, ("up", 1, [1, 2]))
        self.assertEqual((world.went_in(UP, 1), world.went_in(UP, 0)), ([[1, 2]], []))
        self.plays(world, ("send", UP, 250), ("arrive", UP))
        self.assertEqual((world.metered(UP, 1), world.came_out(UP, 1)), (0, []))
        self.plays(world, ("letter", 0, UP))
        self.assertEqual((world.metered(UP, 1), world.metered(DOWN, 1)), (2, 0))
        self.assertEqual((world.came_out(UP, 1), world.came_out(UP, 0)), ([[1, 2]], []))

    def test_packets_and_bearers_out_of_range(self):
        world = World(2, 4, 4)
        for word in ("down", "up"):
            for packet in ([], [1] * 197, [1] * 300, [256], [-1], [1, 256]):
                self.passes_over(world, (word, 0, packet))
            for bearer in (-1, 2, 3, FAR):
                self.passes_over(world, (word, bearer, [1]))
            self.plays(world, (word, 0, [0]), (word, 1, [255] * 196))

    def test_a_full_window(self):
        for word, way in (("down", DOWN), ("up", UP)):
            world = World(2, 4, 4)
            self.plays(world, *[(word, 1, [at]) for at in range(8)])
            self.passes_over(world, (word, 1, [8]))
            self.assertEqual(len(world.went_in(way, 1)), 8)
            self.plays(world, (word, 0, [8]))

    def test_send(self):
        for way, word in ((DOWN, "down"), (UP, "up")):
            world = World(1, 4, 4)
            self.passes_over(world, ("send", way, 64))
            self.plays(world, (word, 0, [1] * 196))
            if way == DOWN:
                self.passes_over(world, ("send", DOWN, 64))
                self.plays(world, ("letter", 0, DOWN))
            self.passes_over(world, ("send", 1 - way, 64))
            for room in (-1, 0, 1, 2, 1001, FAR, -FAR):
                self.passes_over(world, ("send", way, room))
            for wrong in (-1, 2, FAR):
                self.passes_over(world, ("send", wrong, 64))
            self.plays(world, ("send", way, 1000))
            self.passes_over(world, ("send", way, 1000))

    def test_rooms(self):
        for room, sends in ((3, 200), (4, 200), (13, 20), (1000, 1)):
            world = World(1, 4, 4)
            world.play([("up", 0, [1] * 196)])
            told = world.play([("send", UP, room)] * 200)
            self.assertLessEqual(told.count(True), sends)
            world.play([("arrive", UP)] * 200 + [("letter", 0, UP)])
            # A room of 3 bytes has place for the first byte, but not for the offset of another one.
            self.assertEqual(len(world.came_out(UP, 0)), 0 if room == 3 else 1)

    def test_arrive_lose_and_double(self):
        for way, word in ((DOWN, "down"), (UP, "up")):
            world = World(1, 4, 4)
            for act in ("arrive", "lose", "double"):
                self.passes_over(world, (act, way), (act, -1), (act, 2), (act, FAR))
            self.plays(world, (word, 0, [1]), (word, 0, [2]))
            world.play([("letter", 0, DOWN)] * 2)
            self.plays(world, ("send", way, 64), ("send", way, 64))
            for act in ("arrive", "lose", "double"):
                self.passes_over(world, (act, 1 - way))
            self.plays(world, ("double", way), ("lose", way), ("arrive", way), ("lose", way))
            self.passes_over(world, ("arrive", way), ("lose", way), ("double", way))
            world.play([("letter", 0, UP)] * 3)
            self.assertEqual(world.came_out(way, 0), [[1]])

    def test_letters(self):
        world = World(1, 4, 4)
        self.passes_over(world, ("letter", 0, DOWN), ("letter", 0, UP))
        self.plays(world, ("down", 0, [1]), ("up", 0, [2]), ("send", UP, 64), ("arrive", UP))
        for stay, way in ((-1, 0), (1, 0), (1, 1), (FAR, 1), (0, 2), (0, -1)):
            self.passes_over(world, ("letter", stay, way))
        self.plays(world, ("letter", 0, UP), ("letter", 0, DOWN))
        self.passes_over(world, ("letter", 0, DOWN), ("letter", 0, UP))
        self.assertEqual(world.came_out(UP, 0), [[2]])

    def test_a_turn_always_passes(self):
        world = World(1, 4, 4)
        self.plays(world, ("tick",), ("up", 0, [1]), ("send", UP, 64), ("lose", UP))
        self.passes_over(world, ("send", UP, 64))
        self.plays(world, ("tick",), ("tick",), ("tick",))
        self.passes_over(world, ("send", UP, 64))
        self.plays(world, ("tick",), ("send", UP, 64), ("arrive", UP), ("letter", 0, UP))
        self.assertEqual(world.came_out(UP, 0), [[1]])
        # The turns pass at the cell's end, too.
        self.plays(world, ("down", 0, [5]), ("letter", 0, DOWN), ("send", DOWN, 64), ("send", DOWN, 64))
        self.plays(world, ("lose", DOWN), ("lose", DOWN), ("tick",), ("tick",), ("tick",), ("tick",))
        self.plays(world, ("send", DOWN, 64), ("arrive", DOWN))
        self.assertEqual(world.came_out(DOWN, 0), [[5]])

    def test_another_word(self):
        world = World(1, 4, 4)
        world.play([("up", 0, [1]), ("send", UP, 64), ("write",)])
        self.passes_over(
            world, ("other",), ("",), ("Tick",), ("sends", UP, 64), ("left", 0, [1]), ("arrives", UP), ("UP", 0, [1]),
        )

    def test_what_is_no_act_of_the_table(self):
        world = World(1, 4, 4)
        world.play([("up", 0, [1]), ("send", UP, 64), ("write",)])
        self.passes_over(world, (), ("tick", 1), ("send", UP), ("down", 0), ("letter", 0), "tick", None)
        self.passes_over(world, ("arrive", True), ("up", False, [1]), ("letter", False, UP), ("up", 0, [True]))

    def test_play_tells_of_each_act(self):
        world = World(1, 4, 4)
        acts = [("tick",), ("arrive", UP), ("up", 0, [1]), ("bill", 0), ("send", UP, 0), ("send", UP, 9), ("write",)]
        held = copy.deepcopy(acts)
        self.assertEqual(world.play(acts), [True, False, True, False, False, True, True])
        self.assertEqual(acts, held)
        self.assertEqual(world.play([]), [])

    def test_lists_may_be_changed(self):
        world = World(1, 4, 4)
        packet = [1]
        world.play([("up", 0, packet), ("down", 0, packet)])
        packet.append(2)
        world.settle(20)
        asked = [(ask, way) for ask in (world.went_in, world.came_out) for way in (DOWN, UP)]
        kept = [ask(way, 0) for ask, way in asked]
        for ask, way in asked:
            ask(way, 0)[0].append(9)
            ask(way, 0).append([5])
            self.assertEqual(ask(way, 0), [[1]])
        world.play([("up", 0, [7]), ("down", 0, [7])])
        world.settle(20)
        self.assertEqual(kept, [[[1]]] * 4)
        self.assertEqual([ask(way, 0) for ask, way in asked], [[[1], [7]]] * 4)


class BillsTest(WorldCase):
    def test_bills(self):
        world = World(2, 4, 4)
        self.passes_over(world, ("bill", 0), ("bill", 1), ("bill", 7))
        self.plays(world, ("down", 1, [1] * 5), ("write",), ("down", 1, [1] * 4), ("write",))
        self.assertEqual(world.bill(DOWN, 1), 0)
        self.plays(world, ("bill", 0))
        self.assertEqual((world.bill(DOWN, 1), world.metered(DOWN, 1)), (5, 9))
        self.plays(world, ("bill", 3))
        self.assertEqual(world.bill(DOWN, 1), 9)
        self.plays(world, ("bill", 0), ("bill", 2), ("bill", 2 * FAR))
        self.assertEqual((world.bill(DOWN, 1), world.bill(DOWN, 0), world.bill(UP, 1)), (9, 0, 0))

    def test_a_bill_upward(self):
        world = World(2, 4, 4)
        self.plays(world, ("up", 1, [1] * 6), *bring(UP))
        self.plays(world, ("write",), ("bill", 5))
        self.assertEqual([world.bill(way, bearer) for way in (DOWN, UP) for bearer in (0, 1)], [0, 0, 0, 6])
        self.assertEqual([world.metered(way, bearer) for way in (DOWN, UP) for bearer in (0, 1)], [0, 0, 0, 6])

    def meter_of(self, world):
        """The meter of a world, wherever the world keeps it."""
        found = [part.meter for part in vars(world).values() if isinstance(part, Anchor)]
        return found[0]

    def test_the_answer_is_taken_if_the_index_of_the_act_is_even(self):
        # With three letters the index 3 is that of the first letter, and 2 that of the last one.
        for index, is_settled in ((2, True), (8, True), (5, False), (11, False), (0, False), (1, False), (3, False)):
            world = World(1, 4, 4)
            self.plays(world, ("down", 0, [1]), ("write",), ("write",), ("write",), ("bill", index))
            self.assertIs(self.meter_of(world).is_settled(), is_settled, msg=index)

    def test_the_answer_has_the_greatest_serial(self):
        world = World(1, 4, 4)
        self.plays(world, ("down", 0, [1]), ("write",), ("write",), ("bill", 1))
        self.assertIs(self.meter_of(world).is_settled(), False)
        self.plays(world, ("bill", 0))
        self.assertIs(self.meter_of(world).is_settled(), True)

    def test_writing_always_changes_something(self):
        world = World(1, 4, 4)
        self.plays(world, ("write",), ("write",), ("bill", 1))


class StaysTest(WorldCase):
    def test_a_stay_counts(self):
        world = World(1, 4, 4)
        for stay in range(70):
            self.assertEqual(world.stay(), stay)
            self.plays(world, ("stay",))

    def test_the_airs_of_the_stay_before_end(self):
        world = World(1, 4, 4)
        self.plays(world, ("up", 0, [1]), ("send", UP, 64), ("down", 0, [1]), ("letter", 0, DOWN))
        self.plays(world, ("send", DOWN, 64), ("stay",))
        self.passes_over(world, ("arrive", UP), ("lose", UP), ("double", UP), ("arrive", DOWN))

    def test_what_is_unconfirmed_is_sent_again(self):
        world = World(2, 4, 4)
        self.plays(world, ("up", 1, [1]), ("up", 0, [2]), ("up", 0, [3]), ("down", 1, [4]), ("down", 0, [5]))
        self.plays(world, ("stay",))
        self.passes_over(world, ("letter", 1, UP))
        self.plays(world, *[("letter", 1, DOWN)] * 2)
        # Downward a status of each bearer goes before its packet.
        for way, many in ((UP, 3), (DOWN, 4)):
            self.plays(world, *[("send", way, 64), ("arrive", way)] * many)
        self.plays(world, *[("letter", 1, UP)] * 3)
        self.assertEqual((world.came_out(UP, 0), world.came_out(UP, 1)), ([[2], [3]], [[1]]))
        self.assertEqual((world.came_out(DOWN, 0), world.came_out(DOWN, 1)), ([[5]], [[4]]))

    def test_what_the_phone_has_is_not_sent_again(self):
        world = World(1, 4, 4)
        self.plays(world, *[("down", 0, [at]) for at in range(4)])
        self.plays(world, *[("letter", 0, DOWN)] * 4)
        self.plays(world, *[("send", DOWN, 64)] * 4)
        # The phone has the packets 0 and 2.
        self.plays(world, ("arrive", DOWN), ("lose", DOWN), ("arrive", DOWN), ("stay",))
        self.plays(world, *[("letter", 1, DOWN)] * 2)
        self.passes_over(world, ("letter", 1, DOWN))
        self.plays(world, *[("send", DOWN, 64), ("arrive", DOWN)] * 2)
        self.assertEqual(world.came_out(DOWN, 0), [[0], [1], [2], [3]])

    def test_a_letter_to_the_cell_of_an_elder_stay_is_passed_over(self):
        world = World(1, 4, 4)
        self.plays(world, ("down", 0, [1]), ("stay",))
        self.plays(world, ("letter", 0, DOWN))
        self.passes_over(world, ("letter", 0, DOWN), ("send", DOWN, 64))
        self.plays(world, *bring(DOWN, 1))
        self.assertEqual(world.came_out(DOWN, 0), [[1]])

    def test_late_letters_upward(self):
        world = World(1, 4, 4)
        self.plays(world, ("up", 0, [1]), ("send", UP, 64), ("arrive", UP), ("stay",), ("up", 0, [2]))
        # The phone has not heard of the letter, and sends its packet once more.
        self.plays(world, *[("send", UP, 64), ("arrive", UP)] * 2)
        self.passes_over(world, ("letter", 1, UP))
        self.plays(world, ("stay",))
        self.passes_over(world, ("letter", 1, UP), ("letter", 2, UP))
        self.plays(world, ("letter", 0, UP))
        self.assertEqual(world.came_out(UP, 0), [[1]])
        self.passes_over(world, ("letter", 0, UP), ("letter", 2, UP))
        self.plays(world, ("letter", 1, UP))
        self.assertEqual(world.came_out(UP, 0), [[1]])
        self.plays(world, ("letter", 1, UP))
        self.assertEqual(world.came_out(UP, 0), [[1], [2]])
        self.assertEqual(world.metered(UP, 0), 2)

    def test_letters_to_a_cell_do_not_wait_for_elder_ones(self):
        world = World(1, 4, 4)
        self.plays(world, ("down", 0, [1]), ("up", 0, [1]), ("send", UP, 64), ("arrive", UP), ("stay",))
        self.plays(world, ("letter", 1, DOWN), ("letter", 0, DOWN), ("letter", 0, UP))

    def test_letters_upward_do_not_wait_for_those_to_elder_cells(self):
        world = World(1, 4, 4)
        self.plays(world, ("down", 0, [1]), ("stay",), ("up", 0, [1]), ("send", UP, 64), ("arrive", UP))
        self.plays(world, ("letter", 1, UP), ("letter", 0, DOWN))

    def test_a_confirmed_letter_of_an_elder_stay_is_passed_over(self):
        world = World(1, 4, 4)
        self.plays(world, *[("down", 0, [at]) for at in range(8)])
        # The phone has the packet 0 and says so, but the letter about it is late.
        self.plays(world, ("letter", 0, DOWN), ("send", DOWN, 64), ("arrive", DOWN), ("send", UP, 64), ("arrive", UP))
        self.passes_over(world, ("down", 0, [8]))
        self.plays(world, ("stay",), ("down", 0, [8]), ("letter", 0, UP))
        self.passes_over(world, ("down", 0, [9]))
        # Within a stay the letter makes room.
        self.plays(world, ("letter", 1, DOWN), ("send", DOWN, 64), ("arrive", DOWN), ("send", UP, 64), ("arrive", UP))
        self.passes_over(world, ("down", 0, [9]))
        self.plays(world, ("letter", 1, UP), ("down", 0, [9]))

    def test_new_shares_for_both_ends(self):
        # With the unit of its promise given the bearer 0 waits; a new stay begins a new round.
        world = World(2, 4, 4)
        self.plays(world, ("up", 0, [1]), ("up", 0, [2]), ("up", 1, [3]), ("send", UP, 64), ("stay",))
        self.plays(world, ("send", UP, 64), ("arrive", UP), ("letter", 1, UP))
        self.assertEqual((world.came_out(UP, 0), world.came_out(UP, 1)), ([[1]], []))


def rows_in(value):
    """How many rows of letters an object holds."""
    if isinstance(value, Row):
        return 1
    if isinstance(value, dict):
        return sum(rows_in(one) for one in value.values())
    if isinstance(value, (list, tuple)):
        return sum(rows_in(one) for one in value)
    return rows_in(vars(value)) if hasattr(value, "__dict__") else 0


class RowsTest(WorldCase):
    def test_the_rows_of_elder_stays_remain_until_their_letters_have_arrived(self):
        world = World(1, 4, 4)
        self.plays(world, ("stay",), ("down", 0, [1]), ("stay",), ("up", 0, [2]), ("send", UP, 64), ("arrive", UP))
        self.plays(world, *[("stay",)] * 5)
        # The packet downward goes to each new cell, so that only the stay 0 has no letter.
        self.assertEqual((world.stay(), rows_in(world)), (7, 2 * 7))
        self.plays(world, ("letter", 1, DOWN))
        self.assertEqual(rows_in(world), 2 * 6)
        self.plays(world, ("letter", 2, UP))
        self.assertEqual(rows_in(world), 2 * 6)
        self.plays(world, *[("letter", stay, DOWN) for stay in range(2, 8)])
        self.assertEqual((world.came_out(UP, 0), rows_in(world)), ([[2]], 2))


class PartsTest(unittest.TestCase):
    def test_a_world_is_its_parts_put_together(self):
        for seed in range(70):
            chance = random.Random(seed)
            numbers = (chance.randrange(1, 5), chance.randrange(3, 7), chance.randrange(4, 8))
            world, plain = World(*numbers), PlainWorld(*numbers)
            for _ in range(300):
                act = some_act(chance, numbers[0], world.stay())
                self.assertEqual(world.play([act]), [plain.act(act)], msg=act)
                self.assertEqual(seen_of(world, numbers[0]), plain.seen())
            rounds = chance.choice((1, 3, 10, 2000))
            self.assertIs(world.settle(rounds), plain.settle(rounds))
            self.assertEqual(seen_of(world, numbers[0]), plain.seen())

    def test_acts_that_change_nothing_change_nothing(self):
        for seed in range(15):
            chance = random.Random(seed)
            world = World(2, 3, 4)
            for _ in range(150):
                act = some_act(chance, 2, world.stay())
                before = frozen(world)
                if world.play([act]) == [False]:
                    self.assertEqual(frozen(world), before, msg=act)


class SettleTest(WorldCase):
    def test_nothing_to_do(self):
        world = World(2, 4, 4)
        self.assertIs(world.settle(1), True)
        self.assertIs(world.settle(0), False)
        self.assertEqual(seen_of(world, 2), seen_of(World(2, 4, 4), 2))

    def test_all_comes_out(self):
        world = World(2, 4, 4)
        went = [[at] * 100 for at in range(8)]
        for bearer in (0, 1):
            self.plays(world, *[(word, bearer, packet) for packet in went for word in ("up", "down")])
        self.assertIs(world.settle(5), False)
        self.assertIs(world.settle(1000), True)
        for way in (DOWN, UP):
            for bearer in (0, 1):
                self.assertEqual(world.came_out(way, bearer), went)

    def test_too_few_rounds(self):
        world = World(1, 4, 4)
        self.plays(world, ("up", 0, [1]))
        self.assertIs(world.settle(0), False)
        self.assertEqual(world.came_out(UP, 0), [])
        # Its piece arrives in the first round, its letter and the status in the second one.
        self.assertIs(world.settle(1), False)
        self.assertEqual(world.came_out(UP, 0), [])
        self.assertIs(world.settle(1), False)
        self.assertEqual(world.came_out(UP, 0), [[1]])
        self.assertIs(world.settle(1), True)

    def test_the_order_of_a_round(self):
        # Downward a letter, a piece and the status on it go in one round, as the cell is first.
        world = World(1, 4, 4)
        self.plays(world, *[("down", 0, [at]) for at in range(8)])
        self.assertIs(world.settle(1), False)
        self.assertEqual(world.came_out(DOWN, 0), [[0]])
        self.passes_over(world, ("letter", 0, DOWN), ("arrive", DOWN), ("arrive", UP))
        self.assertIs(world.settle(6), False)
        self.assertEqual(len(world.came_out(DOWN, 0)), 7)
        self.passes_over(world, ("letter", 0, UP), ("down", 0, [8]))
        # The last piece has the poll, so the status comes in this round, its letters in the next one.
        self.assertIs(world.settle(1), False)
        self.assertEqual(len(world.came_out(DOWN, 0)), 8)
        self.passes_over(world, ("down", 0, [8]))
        self.assertEqual(world.play([("letter", 0, UP)] * 9), [True] * 8 + [False])
        self.plays(world, ("down", 0, [8]))

    def test_all_pieces_in_the_air_arrive(self):
        world = World(1, 4, 4)
        self.plays(world, *[("up", 0, [at]) for at in range(5)])
        self.plays(world, *[("send", UP, 64)] * 5)
        world.settle(1)
        self.passes_over(world, ("arrive", UP))
        self.assertEqual(world.play([("letter", 0, UP)] * 6), [True] * 5 + [False])

    def test_a_turn_passes_in_each_round(self):
        world = World(1, 4, 4)
        self.plays(world, ("up", 0, [1]), ("send", UP, 64), ("lose", UP))
        self.assertIs(world.settle(4), False)
        self.passes_over(world, ("arrive", UP), ("letter", 0, UP))
        self.assertIs(world.settle(1), False)
        self.plays(world, ("letter", 0, UP))
        self.assertEqual(world.came_out(UP, 0), [[1]])

    def test_the_room_is_64_bytes(self):
        # Beside the heads of the pieces fit 62 bytes, and then 61 and 61; what covers a packet has 4.
        for size, rounds in ((58, 1), (59, 2), (119, 2), (120, 3), (180, 3), (181, 4), (196, 4)):
            world = World(1, 4, 4)
            self.plays(world, ("up", 0, [1] * size))
            world.settle(rounds - 1)
            self.passes_over(world, ("letter", 0, UP))
            world.settle(1)
            self.plays(world, ("letter", 0, UP))
            self.assertEqual(world.came_out(UP, 0), [[1] * size])

    def test_it_waits_for_both_ends(self):
        for way, word in ((DOWN, "down"), (UP, "up")):
            world = World(1, 4, 4)
            self.plays(world, (word, 0, [1]))
            world.play([("letter", 0, DOWN), ("send", way, 64), ("lose", way)])
            # Nothing happens in the quiet turns, but one end is not idle.
            self.assertIs(world.settle(3), False)
            self.assertIs(world.settle(20), True)
            self.assertEqual(world.came_out(way, 0), [[1]])

    def test_it_goes_on_behind_a_round_in_which_a_letter_arrived(self):
        world = World(1, 4, 4)
        self.plays(world, ("down", 0, [1]), ("letter", 0, DOWN), ("send", DOWN, 64), ("arrive", DOWN))
        self.plays(world, ("send", UP, 64), ("arrive", UP))
        # Both ends are idle, but a letter to the anchor waits.
        self.assertIs(world.settle(1), False)
        self.assertIs(world.settle(1), True)
        world = World(1, 4, 4)
        self.plays(world, ("down", 0, [1]), ("letter", 0, DOWN), ("send", DOWN, 64), ("arrive", DOWN))
        self.plays(world, ("down", 0, [2]), ("stay",), *bring(DOWN, 1))
        self.plays(world, ("send", UP, 64), ("arrive", UP), ("letter", 1, UP))
        # Both ends are idle, but a letter to the cell of an elder stay waits.
        self.assertIs(world.settle(1), False)
        self.passes_over(world, ("letter", 0, DOWN))
        self.assertIs(world.settle(1), True)

    def test_it_goes_on_behind_a_round_in_which_a_piece_arrived(self):
        for way, word in ((DOWN, "down"), (UP, "up")):
            world = World(1, 4, 4)
            self.plays(world, (word, 0, [1]))
            world.play([("letter", 0, DOWN)])
            self.plays(world, ("send", way, 64), ("arrive", way), ("send", 1 - way, 64), ("double", 1 - way))
            self.plays(world, ("arrive", 1 - way), ("letter", 0, UP))
            # Both ends are idle, but a second status is in the air.
            self.assertIs(world.settle(1), False)
            self.assertIs(world.settle(1), True)

    def test_it_goes_on_behind_a_round_in_which_a_piece_was_sent(self):
        world = World(1, 4, 4)
        self.plays(world, ("down", 0, [1]), ("letter", 0, DOWN), ("send", DOWN, 64), ("double", DOWN))
        self.plays(world, ("arrive", DOWN), ("send", UP, 64), ("arrive", UP), ("letter", 0, UP), ("arrive", DOWN))
        # The status on the second piece is all that is left to be sent.
        self.assertIs(world.settle(1), False)
        self.assertIs(world.settle(1), True)

    def test_letters_of_elder_stays_arrive_first(self):
        world = World(1, 4, 4)
        for stay in range(4):
            self.plays(world, ("up", 0, [stay]), ("down", 0, [stay]))
            world.play([("send", UP, 64), ("arrive", UP)] * 9)
            self.plays(world, ("stay",))
        self.assertEqual(world.came_out(UP, 0), [])
        world.settle(1)
        self.assertEqual(world.came_out(UP, 0), [[0], [1], [2], [3]])
        for stay in range(4):
            self.passes_over(world, ("letter", stay, UP), ("letter", stay, DOWN))
        self.assertIs(world.settle(50), True)
        self.assertEqual(world.came_out(DOWN, 0), [[0], [1], [2], [3]])


if __name__ == "__main__":
    unittest.main()
