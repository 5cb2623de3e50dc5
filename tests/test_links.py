"""Points [23] and [24]: links, alone and in pairs."""

import random
import unittest

from bearerwise.errors import NotValid
from bearerwise.links import Link
from bearerwise.receiver import Receiver
from bearerwise.segments import data_piece, read_piece, status_piece
from bearerwise.sender import Sender

ALL_BITS = (3, 4, 5, 6)
WHOLE, BEGINNING, END, WITHIN = range(4)


def state_of(link):
    """All that can be seen of a link without changing it."""
    sender, receiver = link.sender, link.receiver
    seen = [sender.low, sender.next, sender.unconfirmed(), sender.waiting(), sender.is_idle()]
    seen += [receiver.low, receiver.kept(), receiver.report(99), receiver.is_due(), link.is_idle()]
    return seen + [(link.has_something(room), sender.has_piece(room)) for room in range(9)]


class LinkTest(unittest.TestCase):
    def test_the_fields(self):
        for bits in ALL_BITS:
            link = Link(bits, 2 ** (bits - 1))
            self.assertIsInstance(link.sender, Sender)
            self.assertIsInstance(link.receiver, Receiver)
            self.assertEqual((link.sender.bits, link.sender.window), (bits, 2 ** (bits - 1)))
            self.assertEqual(link.receiver.bits, bits)
            self.assertIs(link.is_idle(), True)
            self.assertIs(link.has_something(250), False)
            self.assertIsNone(link.send(250))
            self.assertEqual(link.confirmed(), [])

    def test_other_bits_and_windows_are_refused(self):
        for bits, window in ((2, 1), (7, 1), (3, 0), (3, 5), (4, 9), (5, 17), (6, 33), (6, -1)):
            with self.assertRaises(NotValid, msg=(bits, window)):
                Link(bits, window)

    def test_putting_is_that_of_the_sender(self):
        link = Link(3, 4)
        packet = [1, 2]
        link.put(packet)
        packet.append(3)
        self.assertEqual(link.sender.waiting(), [[1, 2]])
        before = state_of(link)
        for wrong in ([], [1] * 201, [256], [-1]):
            with self.assertRaises(NotValid):
                link.put(wrong)
        self.assertEqual(state_of(link), before)

    def test_a_status_goes_before_data(self):
        link = Link(4, 8)
        link.put([1, 2])
        link.take(data_piece(4, True, 1, WHOLE, 0, [5]))
        self.assertEqual(link.send(250), status_piece(4, 2, [(0, 0, 255)]))
        self.assertEqual(link.send(250), data_piece(4, True, 0, WHOLE, 0, [1, 2]))
        self.assertIsNone(link.send(250))

    def test_a_status_has_as_many_ranges_as_fit(self):
        link = Link(4, 8)
        link.take(data_piece(4, True, 1, WHOLE, 0, [5]))
        self.assertEqual(link.send(3), status_piece(4, 0, []))

    def test_a_status_that_does_not_fit_stays_due_beside_data(self):
        # No data piece is shorter than a status without ranges.
        for bits, size in ((3, 1), (4, 2), (5, 2), (6, 2)):
            link = Link(bits, 4)
            link.put([1, 2])
            link.take(data_piece(bits, True, 0, WHOLE, 0, [5]))
            for room in range(-1, size):
                self.assertIsNone(link.send(room))
                self.assertIs(link.receiver.is_due(), True)
                self.assertEqual(link.sender.next, 0)
            self.assertEqual(link.send(size), status_piece(bits, 1, []))
            self.assertEqual(link.send(9), data_piece(bits, True, 0, WHOLE, 0, [1, 2]))

    def test_a_status_that_does_not_fit_stays_due(self):
        link = Link(4, 8)
        link.take(data_piece(4, True, 0, WHOLE, 0, [5]))
        for room in (-1, 0, 1):
            self.assertIsNone(link.send(room))
            self.assertIs(link.is_idle(), False)
        self.assertEqual(link.send(2), status_piece(4, 1, []))
        self.assertIs(link.is_idle(), True)

    def test_asking_tells_what_sending_does_and_changes_nothing(self):
        for bits in ALL_BITS:
            for room in range(-1, 12):
                for is_due in (False, True):
                    for packets in ([], [[1, 2, 3]], [[1], [2]]):
                        link = Link(bits, 4)
                        for packet in packets:
                            link.put(packet)
                        link.take(data_piece(bits, is_due, 0, BEGINNING, 0, [5]))
                        before = state_of(link)
                        would = link.has_something(room)
                        self.assertEqual(state_of(link), before)
                        self.assertIs(would, link.send(room) is not None)

    def test_data_is_given_to_the_receiver(self):
        link = Link(4, 8)
        self.assertEqual(link.take(data_piece(4, False, 0, BEGINNING, 0, [1])), [])
        self.assertEqual(link.take(data_piece(4, False, 0, END, 1, [2])), [[1, 2]])
        self.assertEqual(link.take(data_piece(4, False, 0, END, 1, [2])), [])
        self.assertEqual(link.take(data_piece(4, False, 2, WHOLE, 0, [3])), [[3]])
        self.assertEqual((link.receiver.low, link.sender.next), (1, 0))

    def test_a_status_is_given_to_the_sender(self):
        link = Link(4, 8)
        for at in range(4):
            link.put([at])
            link.send(250)
        self.assertEqual(link.take(status_piece(4, 3, [(1, 0, 255)])), [])
        self.assertEqual(link.sender.unconfirmed(), [(1, [1]), (3, [3])])
        self.assertEqual(link.send(250), data_piece(4, True, 1, WHOLE, 0, [1]))
        self.assertEqual(link.receiver.report(8), (0, []))

    def test_what_is_no_piece_or_is_refused_is_passed_over(self):
        link = Link(4, 8)
        link.put([1, 2, 3])
        link.send(3)
        link.take(data_piece(4, False, 0, END, 2, [3]))
        before = state_of(link)
        for piece in (
            [], [84], [0], [255] * 9, [144], status_piece(4, 1, []) + [0], status_piece(4, 1, [(0, 0, 1)])[:-1],
            data_piece(4, True, 0, WITHIN, 200, [1]), data_piece(4, True, 0, END, 1, [2]),
            data_piece(4, True, 0, WITHIN, 2, [2]), data_piece(4, True, 0, WHOLE, 0, [1] * 201),
            # A status whose upto stands for a number above the next one.
            status_piece(4, 2, []), status_piece(4, 15, [(0, 0, 255)]),
        ):
            held = list(piece)
            self.assertEqual(link.take(piece), [], msg=piece)
            self.assertEqual(piece, held)
            self.assertEqual(state_of(link), before, msg=piece)
        self.assertEqual(link.confirmed(), [])

    def test_confirmed_tells_each_number_once_in_the_order_of_the_statuses(self):
        link = Link(4, 8)
        for at in range(7):
            link.put([at])
            link.send(250)
        link.take(status_piece(4, 6, [(0, 0, 255), (3, 0, 255)]))
        link.take(status_piece(4, 6, [(3, 0, 255)]))
        told = link.confirmed()
        self.assertEqual(told, [1, 2, 4, 5, 0])
        self.assertEqual(link.confirmed(), [])
        link.take(status_piece(4, 7, []))
        self.assertEqual(told, [1, 2, 4, 5, 0])
        self.assertEqual(link.confirmed(), [3, 6])
        link.take(status_piece(4, 7, []))
        self.assertEqual(link.confirmed(), [])

    def test_confirmed_tells_true_numbers_and_gives_away_its_list(self):
        link = Link(3, 4)
        for at in range(20):
            link.put([at])
            link.send(250)
            link.take(status_piece(3, at + 1, []))
            told = link.confirmed()
            self.assertEqual(told, [at])
            told.append(99)
        self.assertEqual(link.confirmed(), [])

    def test_a_turn_passes_for_the_sender(self):
        link = Link(4, 8)
        link.put([1, 2])
        link.send(250)
        for _ in range(3):
            link.tick()
            self.assertIs(link.has_something(250), False)
        link.tick()
        self.assertEqual(link.send(250), data_piece(4, True, 0, WHOLE, 0, [1, 2]))

    def test_idle_if_all_is_confirmed_and_no_status_is_due(self):
        link = Link(4, 8)
        link.put([1, 2])
        self.assertIs(link.is_idle(), False)
        link.send(250)
        self.assertIs(link.is_idle(), False)
        link.take(status_piece(4, 1, []))
        self.assertIs(link.is_idle(), True)
        link.take(data_piece(4, False, 0, BEGINNING, 0, [1]))
        self.assertIs(link.is_idle(), True)
        link.take(data_piece(4, True, 0, BEGINNING, 0, [1]))
        self.assertIs(link.is_idle(), False)
        link.send(250)
        self.assertIs(link.is_idle(), True)


class Pair:
    """Two links, joined by an air in each way that keeps the order of its pieces."""

    def __init__(self, bits, window):
        self.links = [Link(bits, window), Link(bits, window)]
        self.airs = [[], []]
        self.put = [[], []]
        self.came = [[], []]
        self.told = [[], []]

    def take_in(self, way, packet):
        self.links[way].put(packet)
        self.put[way].append(packet)

    def send(self, way, room):
        would = self.links[way].has_something(room)
        piece = self.links[way].send(room)
        assert would is (piece is not None)
        assert piece is None or 0 < len(piece) <= room
        if piece is not None:
            self.airs[way].append(piece)
        return piece

    def arrive(self, way):
        self.came[way] += self.links[1 - way].take(self.airs[way].pop(0))
        self.told[1 - way] += self.links[1 - way].confirmed()

    def disturbed_turn(self, chance, most_room):
        """One turn in an air that loses, doubles and holds up its pieces."""
        for way in (0, 1):
            for _ in range(chance.randrange(4)):
                self.send(way, chance.randrange(most_room))
            for _ in range(chance.randrange(5)):
                if self.airs[way]:
                    fate = chance.randrange(6)
                    if fate == 0:
                        self.airs[way].pop(0)
                    elif fate == 1:
                        self.airs[way].insert(1, list(self.airs[way][0]))
                    else:
                        self.arrive(way)
        for link in self.links:
            link.tick()

    def quiet_turn(self, room):
        """One turn in an air in which everything that is sent arrives."""
        for way in (0, 1):
            while self.send(way, room) is not None:
                pass
            while self.airs[way]:
                self.arrive(way)
        for link in self.links:
            link.tick()

    def is_idle(self):
        return self.links[0].is_idle() and self.links[1].is_idle() and self.airs == [[], []]


class PairTest(unittest.TestCase):
    def check_all_came(self, pair):
        for way in (0, 1):
            # A packet comes as soon as it is whole, so not always in its turn.
            self.assertEqual(sorted(pair.came[way]), sorted(pair.put[way]))
            numbers = list(range(len(pair.put[way])))
            self.assertEqual(sorted(pair.told[way]), numbers)
            self.assertEqual(pair.links[way].sender.low, len(numbers))
            self.assertEqual(pair.links[1 - way].receiver.low, len(numbers))
            self.assertEqual(pair.links[1 - way].receiver.kept(), [])

    def make_idle(self, pair, room, most):
        for turns in range(most):
            if pair.is_idle():
                return turns
            pair.quiet_turn(room)
        self.fail("the links did not become idle")

    def test_a_quiet_air(self):
        for bits in ALL_BITS:
            for window in sorted({1, 2, 2 ** (bits - 1)}):
                pair = Pair(bits, window)
                for at in range(60):
                    pair.take_in(at % 2, [at] * (1 + at * 3))
                turns = self.make_idle(pair, 12, 400)
                self.check_all_came(pair)
                # Nothing is lost, so each turn confirms a whole window in each way.
                self.assertLessEqual(turns, 30 // window + 3)
                self.assertEqual(pair.came, pair.put)

    def test_a_disturbed_air_and_then_a_quiet_one(self):
        for seed in range(80):
            chance = random.Random(seed)
            bits = chance.choice(ALL_BITS)
            window = chance.choice((1, 2, 2 ** (bits - 1)))
            pair = Pair(bits, window)
            most_room = chance.choice((7, 12, 40, 260))
            for _ in range(150):
                for way in (0, 1):
                    if chance.randrange(3) == 0:
                        # Two bytes of the number, so that no two packets of a way are equal.
                        many = len(pair.put[way])
                        pair.take_in(way, [many // 256, many % 256] + [many % 251] * chance.randrange(30))
                pair.disturbed_turn(chance, most_room)
                for way in (0, 1):
                    self.assertLessEqual(len(pair.links[way].sender.unconfirmed()), window)
                    self.assertLessEqual(len(pair.links[way].receiver.kept()), 2 ** (bits - 1))
                    for packet in pair.came[way]:
                        self.assertIn(packet, pair.put[way])
            self.make_idle(pair, 12, 2000)
            self.check_all_came(pair)
            self.assertIsNone(pair.send(0, 250))
            self.assertIsNone(pair.send(1, 250))

    def test_more_holes_than_a_status_can_tell(self):
        pair = Pair(4, 8)
        pair.take_in(0, [at % 256 for at in range(200)])
        lost = False
        while pair.send(0, 5) is not None:
            if lost and len(pair.airs[0]) == 1:
                pair.airs[0].pop()
            lost = not lost
            while pair.airs[0]:
                pair.arrive(0)
        self.assertGreater(len(pair.links[1].receiver.report(99)[1]), 8)
        self.make_idle(pair, 12, 50)
        self.check_all_came(pair)


if __name__ == "__main__":
    unittest.main()
