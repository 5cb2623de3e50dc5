"""Points [45] to [49]: the ends of a stay, rows of letters, and a cell's side of a stay."""

import random
import unittest

from bearerwise import cells
from bearerwise.cells import CellEnd, End, Row
from bearerwise.counts import short_of, window
from bearerwise.covers import cover, uncover
from bearerwise.errors import NotValid
from bearerwise.links import Link
from bearerwise.segments import data_piece, read_piece
from bearerwise.shares import Shares
from helpers import frozen

WHOLE = 0
DOWN, UP = 0, 1


def shares_of(bearers):
    return Shares([1] * bearers, [1 + bearer for bearer in range(bearers)], 8)


def end_of(way, bearers=1, stay=0, link_bits=4, count_bits=4):
    return End(stay, way, link_bits, count_bits, shares_of(bearers))


def piece_of(bearer, number, link_packet, bits=4, poll=False):
    """A piece with a whole link packet."""
    return [bearer] + data_piece(bits, poll, number, WHOLE, 0, link_packet)


class PlainEnd:
    """An end by the words of points [46] to [48], put together from links, covers and shares."""

    def __init__(self, stay, way, link_bits, count_bits, shares):
        self.stay, self.way, self.count_bits, self.shares = stay, way, count_bits, shares
        self.links = [Link(link_bits, 2 ** (link_bits - 1)) for _ in shares.given()]
        self.put = [[] for _ in self.links]
        self.told = []

    def add(self, bearer, count, packet):
        covered = cover(self.stay, bearer, self.way, count, packet)
        self.links[bearer].put([count % 2 ** self.count_bits] + covered)
        self.put[bearer].append(count)

    def send(self, room):
        able = [link.has_something(room - 1) for link in self.links]
        if True not in able:
            return None
        bearer = self.shares.give(able)
        return [bearer] + self.links[bearer].send(room - 1)

    def take(self, piece, expected):
        if not piece or piece[0] not in range(len(self.links)):
            return []
        bearer, half = piece[0], 2 ** (self.count_bits - 1)
        found = []
        for told in self.links[bearer].take(piece[1:]):
            for count in range(max(0, expected[bearer] - half), expected[bearer] + half):
                packet = uncover(self.stay, bearer, 1 - self.way, count, told[1:])
                if count % 2 ** self.count_bits == told[0] and packet is not None:
                    found.append((bearer, count, packet))
        self.told += [(bearer, self.put[bearer][number]) for number in self.links[bearer].confirmed()]
        return found

    def confirmed(self):
        told, self.told = self.told, []
        return sorted(told)

    def tick(self):
        for link in self.links:
            link.tick()

    def is_idle(self):
        return all(link.is_idle() for link in self.links)


class EndTest(unittest.TestCase):
    def test_a_piece_is_the_bearer_and_the_piece_of_its_link(self):
        end = end_of(UP, bearers=3, stay=5)
        end.add(2, 21, [7, 8, 9])
        piece = end.send(64)
        self.assertEqual(piece[0], 2)
        kind, poll, number, part, offset, body = read_piece(4, piece[1:])
        self.assertEqual((kind, poll, number, part, offset), ("data", True, 0, WHOLE, 0))
        self.assertEqual(body, [21 % 16] + cover(5, 2, 1, 21, [7, 8, 9]))
        self.assertIsNone(end.send(64))

    def test_the_bearer_takes_one_byte_of_the_room(self):
        # A head of one byte, the least status of two bytes with 4 bits.
        end = end_of(UP)
        end.add(0, 0, [1])
        for room in (-1, 0, 1, 2):
            self.assertIsNone(end.send(room))
        self.assertEqual(len(end.send(3)), 3)
        self.assertEqual(len(end.send(4)), 4)
        taker = end_of(DOWN)
        taker.take(piece_of(0, 0, [0], poll=True), [0])
        for room in (-1, 0, 1, 2):
            self.assertIsNone(taker.send(room))
            self.assertIs(taker.is_idle(), False)
        self.assertEqual(len(taker.send(3)), 3)
        self.assertIs(taker.is_idle(), True)

    def test_the_windows_of_the_links(self):
        for link_bits in (3, 4, 5, 6):
            end = end_of(UP, link_bits=link_bits, count_bits=7)
            for count in range(40):
                end.add(0, count, [count])
            pieces = 0
            while end.send(250) is not None:
                pieces += 1
            self.assertEqual(pieces, 2 ** (link_bits - 1))

    def test_greatest_and_least_packets(self):
        self.assertEqual(cells.MOST_BYTES, 196)
        for size in (1, 195, 196):
            phone, cell = end_of(UP), end_of(DOWN)
            packet = [at % 256 for at in range(size)]
            phone.add(0, 3, packet)
            self.assertEqual(cell.take(phone.send(1000), [0]), [(0, 3, packet)])

    def test_a_packet_that_no_link_takes_changes_nothing(self):
        end = end_of(UP)
        before = frozen(end)
        with self.assertRaises(NotValid):
            end.add(0, 0, [1] * 197)
        self.assertEqual(frozen(end), before)

    def test_passed_lists_stay_and_may_be_changed(self):
        phone, cell = end_of(UP), end_of(DOWN)
        packet, expected = [1, 2], [0]
        phone.add(0, 0, packet)
        packet.append(3)
        piece = phone.send(64)
        held = list(piece)
        self.assertEqual(cell.take(piece, expected), [(0, 0, [1, 2])])
        self.assertEqual((packet, piece, expected), ([1, 2, 3], held, [0]))

    def test_the_shares_are_the_passed_ones(self):
        shares = Shares([0, 0], [1, 3], 4)
        end = End(0, UP, 4, 4, shares)
        for bearer in (0, 1):
            for count in range(4):
                end.add(bearer, count, [count])
        self.assertEqual([end.send(64)[0] for _ in range(4)], [1, 0, 1, 1])
        self.assertEqual((shares.balances(), shares.place()), ([0, 0], 0))
        end.send(64)
        # Behind its last packet the bearer 1 has nothing to send.
        self.assertEqual([end.send(64), end.send(64)].count(None), 0)
        self.assertIsNotNone(end.send(64))
        self.assertIsNone(end.send(64))
        self.assertEqual(shares.place(), 0)

    def test_a_bearer_that_cannot_send_in_the_room_gets_no_unit(self):
        # The bearer 0 is in the midst of a packet, so that its head takes two bytes.
        shares = Shares([0, 0], [9, 1], 100)
        end = End(0, UP, 4, 4, shares)
        end.add(0, 0, [1] * 20)
        self.assertEqual(end.send(6)[0], 0)
        end.add(1, 0, [1])
        before = shares.balances()
        self.assertEqual(end.send(3)[0], 1)
        self.assertEqual(shares.balances(), before)
        self.assertEqual(end.send(4)[0], 0)

    def test_a_status_goes_before_data(self):
        phone, cell = end_of(UP), end_of(DOWN)
        cell.add(0, 0, [5])
        phone.add(0, 0, [1])
        cell.take(phone.send(64), [0])
        self.assertEqual(read_piece(4, cell.send(64)[1:]), ("status", 1, []))
        self.assertEqual(read_piece(4, cell.send(64)[1:])[0], "data")

    def test_a_count_is_read_by_what_is_expected(self):
        for expected in (0, 7, 8, 9, 20, 1000):
            for count in range(max(0, expected - 8), expected + 8):
                phone, cell = end_of(UP), end_of(DOWN)
                phone.add(0, count, [1, 2])
                self.assertEqual(cell.take(phone.send(64), [expected]), [(0, count, [1, 2])])

    def test_a_count_out_of_the_bounds_is_passed_over(self):
        for expected, count in ((20, 11), (20, 28), (0, 8), (1000, 5)):
            phone, cell = end_of(UP), end_of(DOWN)
            phone.add(0, count, [1, 2])
            self.assertEqual(cell.take(phone.send(64), [expected]), [])
            # Its link has handed it up all the same.
            self.assertIs(cell.is_idle(), False)

    def test_a_link_packet_whose_first_byte_is_no_short_count(self):
        covered = cover(0, 0, UP, 1, [5])
        for count_bits in (4, 5, 6, 7):
            for first in (2 ** count_bits + 1, 129 + 2 ** count_bits * (count_bits < 7), 255):
                cell = end_of(DOWN, count_bits=count_bits)
                self.assertEqual(cell.take(piece_of(0, 0, [first] + covered), [0]), [])
            cell = end_of(DOWN, count_bits=count_bits)
            self.assertEqual(cell.take(piece_of(0, 0, [1] + covered), [0]), [(0, 1, [5])])

    def test_a_link_packet_that_names_no_count(self):
        cell = end_of(DOWN)
        covered = cover(0, 0, UP, 127, [5])
        self.assertEqual(cell.take(piece_of(0, 0, [15] + covered), [2]), [])
        self.assertEqual(cell.take(piece_of(0, 1, [15] + cover(0, 0, UP, 15, [5])), [8]), [(0, 15, [5])])

    def test_what_cannot_be_uncovered_is_passed_over(self):
        good = cover(3, 1, UP, 2, [5, 6])
        wrong = [
            cover(2, 1, UP, 2, [5, 6]), cover(3, 0, UP, 2, [5, 6]), cover(3, 1, DOWN, 2, [5, 6]),
            cover(3, 1, UP, 18, [5, 6]), good[:-1] + [good[-1] ^ 1], [good[0] ^ 4] + good[1:], good[:2], [],
        ]
        cell = end_of(DOWN, bearers=2, stay=3)
        for number, covered in enumerate(wrong):
            self.assertEqual(cell.take(piece_of(1, number, [2] + covered), [0, 0]), [])
        self.assertEqual(cell.take(piece_of(1, len(wrong), [2] + good), [0, 0]), [(1, 2, [5, 6])])

    def test_no_bearer(self):
        for bearers in (1, 2, 4):
            cell = end_of(DOWN, bearers=bearers)
            before = frozen(cell)
            for piece in ([], piece_of(bearers, 0, [0] + cover(0, bearers, UP, 0, [5]), poll=True), [255], [bearers]):
                self.assertEqual(cell.take(piece, [0] * bearers), [])
            self.assertEqual(frozen(cell), before)

    def test_a_broken_piece_is_passed_over(self):
        cell = end_of(DOWN)
        for piece in ([0], [0, 255], [0, 0], [0, 128]):
            self.assertEqual(cell.take(piece, [0]), [])
        self.assertEqual(cell.confirmed(), [])
        self.assertIs(cell.is_idle(), True)

    def test_confirmed_counts_are_told_once_in_ascending_order(self):
        phone, cell = end_of(UP, bearers=3), end_of(DOWN, bearers=3)
        for bearer, count in ((2, 4), (2, 3), (0, 7), (1, 1), (0, 5)):
            phone.add(bearer, count, [count])
        self.assertEqual(phone.confirmed(), [])
        while (piece := phone.send(64)) is not None:
            cell.take(piece, [4, 4, 4])
        self.assertEqual(phone.confirmed(), [])
        while (piece := cell.send(64)) is not None:
            self.assertEqual(phone.take(piece, [0, 0, 0]), [])
        told = phone.confirmed()
        self.assertEqual(told, [(0, 5), (0, 7), (1, 1), (2, 3), (2, 4)])
        self.assertIsInstance(told[0], tuple)
        self.assertEqual(phone.confirmed(), [])
        self.assertEqual(len(told), 5)
        self.assertIs(phone.is_idle(), True)

    def test_a_turn_passes_at_all_links(self):
        phone = end_of(UP, bearers=2)
        phone.add(0, 0, [1])
        phone.add(1, 0, [1])
        first = [phone.send(64), phone.send(64)]
        for _ in range(3):
            phone.tick()
            self.assertIsNone(phone.send(64))
        phone.tick()
        self.assertEqual(sorted([phone.send(64), phone.send(64)]), sorted(first))

    def test_idle(self):
        phone, cell = end_of(UP, bearers=2), end_of(DOWN, bearers=2)
        self.assertIs(phone.is_idle(), True)
        phone.add(1, 0, [1])
        self.assertIs(phone.is_idle(), False)
        piece = phone.send(64)
        self.assertIs(phone.is_idle(), False)
        cell.take(piece, [0, 0])
        self.assertIs(cell.is_idle(), False)
        status = cell.send(64)
        self.assertIs(cell.is_idle(), True)
        phone.take(status, [0, 0])
        self.assertIs(phone.is_idle(), True)


class TwoEndsTest(unittest.TestCase):
    """Two ends of a stay, with an air in each way that keeps its order, loses and doubles."""

    def begin(self, seed):
        self.chance = random.Random(seed)
        self.bearers = self.chance.randrange(1, 4)
        link_bits, self.count_bits = self.chance.randrange(3, 7), self.chance.randrange(4, 8)
        stay = self.chance.choice((0, 1, 63, 64, self.chance.randrange(10 ** 6)))
        told = (link_bits, self.count_bits)
        self.ends = [End(stay, way, *told, shares_of(self.bearers)) for way in (DOWN, UP)]
        self.plain = [PlainEnd(stay, way, *told, shares_of(self.bearers)) for way in (DOWN, UP)]
        self.airs = [[], []]
        # By way, then by bearer: packets by their counts that were put, handed over, confirmed.
        self.put = [[{} for _ in range(self.bearers)] for _ in (DOWN, UP)]
        self.handed = [[{} for _ in range(self.bearers)] for _ in (DOWN, UP)]
        self.told = [[], []]

    def add(self, way):
        bearer = self.chance.randrange(self.bearers)
        put = self.put[way][bearer]
        confirmed = [count for told, count in self.told[way] if told == bearer]
        base = min(set(range(len(put) + 1)) - set(confirmed))
        if len(put) < base + window(self.count_bits):
            packet = [self.chance.randrange(256) for _ in range(self.chance.choice((1, 3, 40, 196)))]
            for end in (self.ends[way], self.plain[way]):
                end.add(bearer, len(put), packet)
            put[len(put)] = packet

    def send(self, way, room):
        piece = self.ends[way].send(room)
        self.assertEqual(piece, self.plain[way].send(room))
        if piece is not None:
            self.assertLessEqual(len(piece), room)
            self.assertIn(piece[0], range(self.bearers))
            self.airs[way].append(piece)
        return piece is not None

    def expected(self, way):
        return [min(set(range(len(handed) + 1)) - set(handed)) for handed in self.handed[way]]

    def arrive(self, way):
        piece, expected = self.airs[way].pop(0), self.expected(way)
        handed = self.ends[1 - way].take(piece, expected)
        self.assertEqual(handed, self.plain[1 - way].take(piece, expected))
        for bearer, count, packet in handed:
            self.assertNotIn(count, self.handed[way][bearer])
            self.assertEqual(packet, self.put[way][bearer][count])
            self.handed[way][bearer][count] = packet
        if self.chance.randrange(2):
            self.ask(1 - way)

    def ask(self, way):
        told = self.ends[way].confirmed()
        self.assertEqual(told, self.plain[way].confirmed())
        self.assertEqual(told, sorted(told))
        for bearer, count in told:
            self.assertNotIn((bearer, count), self.told[way])
            self.assertIn(count, self.handed[way][bearer])
        self.told[way] += told

    def tick(self):
        for end in self.ends + self.plain:
            end.tick()

    def disturbed(self, acts):
        for _ in range(acts):
            act, way = self.chance.randrange(10), self.chance.randrange(2)
            if act < 2:
                self.add(way)
            elif act < 5:
                self.send(way, self.chance.choice((0, 2, 3, 4, 7, 20, 64, 250)))
            elif act < 7 and self.airs[way]:
                self.arrive(way)
            elif act == 7 and self.airs[way]:
                self.airs[way].pop(0)
            elif act == 8 and self.airs[way]:
                self.airs[way].insert(1, list(self.airs[way][0]))
            elif act == 9:
                self.tick()
            self.assertEqual([end.is_idle() for end in self.ends], [end.is_idle() for end in self.plain])

    def settle(self):
        for _ in range(3000):
            for way in (DOWN, UP):
                self.send(way, 64)
                while self.airs[way]:
                    self.arrive(way)
            self.tick()
            if all(end.is_idle() for end in self.ends):
                break
        for way in (DOWN, UP):
            self.ask(way)
            self.assertEqual(self.handed[way], self.put[way])
            everything = [(bearer, count) for bearer, put in enumerate(self.put[way]) for count in put]
            self.assertEqual(sorted(self.told[way]), everything)
            self.assertIs(self.ends[way].is_idle(), True)
            self.assertIsNone(self.ends[way].send(250))

    def test_each_packet_is_handed_over_once_and_then_confirmed_once(self):
        for seed in range(80):
            self.begin(seed)
            self.disturbed(400)
            self.settle()


class RowTest(unittest.TestCase):
    def test_letters_arrive_in_the_order_in_which_they_were_sent(self):
        letters = [("up", 0, 3, [1]), ("confirmed", 1, 2), ("down", 2, 0, [4, 5])]
        row = Row()
        self.assertIsNone(row.arrive())
        self.assertEqual(row.waiting(), [])
        for letter in letters:
            row.send(letter)
        self.assertEqual(row.waiting(), letters)
        for at in range(3):
            self.assertEqual(row.arrive(), letters[at])
            self.assertEqual(row.waiting(), letters[at + 1:])
        self.assertIsNone(row.arrive())
        row.send(letters[0])
        self.assertEqual(row.waiting(), letters[:1])

    def test_lists_may_be_changed(self):
        packet = [1]
        row = Row()
        row.send(("up", 0, 3, packet))
        row.send(("up", 0, 4, packet))
        packet.append(9)
        waiting = row.waiting()
        waiting[0][3].append(8)
        waiting.pop()
        kept = row.waiting()
        row.arrive()[3].append(7)
        self.assertEqual(row.waiting(), [("up", 0, 4, [1])])
        self.assertEqual(kept, [("up", 0, 3, [1]), ("up", 0, 4, [1])])


class CellEndTest(unittest.TestCase):
    def test_what_it_expects_at_first(self):
        for told, expected in (
            ((0, []), 0), ((5, []), 5), ((5, [3, 4]), 3), ((5, [2]), 2), ((9, [4, 8]), 4), ((5, [4]), 4),
        ):
            cell = CellEnd(end_of(DOWN), [told])
            self.assertEqual(cell.expected(), [expected])
        cell = CellEnd(end_of(DOWN, bearers=3), [(5, []), (0, []), (7, [6])])
        self.assertEqual(cell.expected(), [5, 0, 6])

    def test_the_end_is_a_field(self):
        end = end_of(DOWN)
        self.assertIs(CellEnd(end, [(0, [])]).end, end)

    def test_it_keeps_what_it_is_told(self):
        told = [(5, [2, 4])]
        cell, phone = CellEnd(end_of(DOWN), told), end_of(UP)
        phone.add(0, 2, [1])
        told[0][1].clear()
        self.assertEqual(cell.expected(), [2])
        cell.take_piece(phone.send(64))
        self.assertEqual(cell.expected(), [4])
        told = [(5, [2, 4])]
        cell, phone = CellEnd(end_of(DOWN), told), end_of(UP)
        phone.add(0, 2, [1])
        cell.take_piece(phone.send(64))
        self.assertEqual(told, [(5, [2, 4])])

    def test_the_least_count_that_is_needed_and_was_not_handed_over(self):
        cell, phone = CellEnd(end_of(DOWN), [(6, [1, 3, 4])]), end_of(UP)
        expected = []
        for count in (3, 7, 1, 4, 8, 6, 9):
            phone.add(0, count, [count])
            self.assertEqual(cell.take_piece(phone.send(64)), [("up", 0, count, [count])])
            expected += cell.expected()
        self.assertEqual(expected, [1, 1, 4, 6, 6, 9, 10])

    def test_doubles_make_no_second_letter(self):
        cell, phone = CellEnd(end_of(DOWN), [(0, [])]), end_of(UP)
        phone.add(0, 0, [5])
        piece = phone.send(64)
        self.assertEqual(cell.take_piece(piece), [("up", 0, 0, [5])])
        self.assertEqual(cell.take_piece(piece), [])
        self.assertEqual(cell.expected(), [1])

    def test_pieces_that_are_passed_over_make_no_letter(self):
        cell = CellEnd(end_of(DOWN), [(0, [])])
        for piece in ([], [1], [0], [0, 255], piece_of(0, 0, [0] + cover(1, 0, UP, 0, [5]))):
            self.assertEqual(cell.take_piece(piece), [])
        self.assertEqual(cell.expected(), [0])

    def test_a_letter_of_the_anchor_comes_as_a_packet_and_makes_one_letter_when_it_is_confirmed(self):
        cell, phone = CellEnd(end_of(DOWN, bearers=2), [(0, []), (0, [])]), end_of(UP, bearers=2)
        letter = ("down", 1, 19, [5, 6])
        cell.take_letter(letter)
        self.assertEqual(letter, ("down", 1, 19, [5, 6]))
        self.assertEqual(phone.take(cell.end.send(64), [0, 20]), [(1, 19, [5, 6])])
        status = phone.send(64)
        self.assertEqual(cell.take_piece(status), [("confirmed", 1, 19)])
        self.assertEqual(cell.take_piece(status), [])
        self.assertEqual(cell.expected(), [0, 0])

    def test_the_up_letters_stand_before_the_confirmed_ones(self):
        cell, phone = CellEnd(end_of(DOWN), [(0, [])]), end_of(UP)
        cell.take_letter(("down", 0, 0, [5]))
        cell.take_letter(("down", 0, 1, [6]))
        for _ in range(2):
            phone.take(cell.end.send(64), [0])
        # The confirmed counts wait in the end until a piece with a packet is taken.
        cell.end.take(phone.send(64), [0])
        phone.add(0, 0, [9])
        letters = [("up", 0, 0, [9]), ("confirmed", 0, 0), ("confirmed", 0, 1)]
        self.assertEqual(cell.take_piece(phone.send(64)), letters)

    def test_a_whole_stay(self):
        for seed in range(40):
            chance = random.Random(seed)
            count_bits, stay = chance.randrange(4, 8), chance.randrange(200)
            next_count = chance.randrange(50)
            first = max(0, next_count - window(count_bits) + 3)
            told = [count for count in range(first, next_count) if chance.randrange(2)]
            cell = CellEnd(end_of(DOWN, 1, stay, 3, count_bits), [(next_count, told)])
            phone = end_of(UP, 1, stay, 3, count_bits)
            coming = told + [next_count, next_count + 1, next_count + 2]
            down = list(range(chance.randrange(6)))
            for count in coming:
                phone.add(0, count, [count, 7])
            for count in down:
                cell.take_letter(("down", 0, count, [count, 8]))
            letters, came = [], []
            for _ in range(300):
                piece = phone.send(64)
                for _ in range(chance.randrange(3) if piece is not None else 0):
                    letters += cell.take_piece(piece)
                handed = [letter[2] for letter in letters if letter[0] == "up"]
                lacking = [count for count in coming if count not in handed]
                self.assertEqual(cell.expected(), [lacking[0] if lacking else next_count + 3])
                piece = cell.end.send(64)
                for _ in range(chance.randrange(3) if piece is not None else 0):
                    came += phone.take(piece, [len(came)])
                phone.tick()
                cell.end.tick()
            self.assertEqual(sorted(letters), sorted(
                [("up", 0, count, [count, 7]) for count in coming] + [("confirmed", 0, count) for count in down]
            ))
            self.assertEqual(sorted(came), [(0, count, [count, 8]) for count in down])
            self.assertEqual(phone.confirmed(), [(0, count) for count in coming])


class StayTest(unittest.TestCase):
    def test_the_number_of_the_stay_is_the_key(self):
        phone, cell = end_of(UP, stay=1), end_of(DOWN, stay=2)
        phone.add(0, 0, [5])
        self.assertEqual(cell.take(phone.send(64), [0]), [])

    def test_short_counts_go_through_the_air(self):
        for count_bits in (4, 5, 6, 7):
            for count in (0, 15, 16, 127, 128, 10 ** 6):
                phone = end_of(UP, count_bits=count_bits)
                phone.add(0, count, [5])
                self.assertEqual(phone.send(64)[2], short_of(count, count_bits))


if __name__ == "__main__":
    unittest.main()
