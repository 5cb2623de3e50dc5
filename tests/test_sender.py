"""Points [12] to [16]: the sender of a link."""

import random
import unittest

from bearerwise.errors import NotValid
from bearerwise.segments import data_piece, read_piece
from bearerwise.sender import PATIENCE, Sender

ALL_BITS = (3, 4, 5, 6)
WHOLE, BEGINNING, END, WITHIN = range(4)


def packet_of(size, seed=1):
    """A packet of so many bytes."""
    return [(at * 7 + seed) % 256 for at in range(size)]


def sender_of(bits, window, packets):
    sender = Sender(bits, window)
    for packet in packets:
        sender.put(packet)
    return sender


def drained(sender, room=250):
    """All pieces that a sender sends with this room, read; each poll but the last is False."""
    found = []
    while sender.has_piece(room):
        found.append(read_piece(sender.bits, sender.send(room)))
    assert sender.send(room) is None
    assert [one[1] for one in found] == [False] * (len(found) - 1) + [True] * (len(found) > 0)
    return [(number, part, offset, body) for _, _, number, part, offset, body in found]


def state_of(sender):
    """All that can be seen of a sender without changing it."""
    seen = (sender.bits, sender.window, sender.low, sender.next, sender.unconfirmed(), sender.waiting())
    return seen + (sender.is_idle(), [sender.has_piece(room) for room in range(1, 9)])


def quiet_turns(sender, most=20):
    """How many turns pass until something is left to be sent."""
    for turns in range(most):
        if sender.has_piece(250):
            return turns
        sender.tick()
    return None


class NewSenderTest(unittest.TestCase):
    def test_the_fields(self):
        for bits in ALL_BITS:
            for window in (1, 2, 2 ** (bits - 1)):
                sender = Sender(bits, window)
                self.assertEqual((sender.bits, sender.window, sender.low, sender.next), (bits, window, 0, 0))
                self.assertEqual((sender.unconfirmed(), sender.waiting()), ([], []))
                self.assertIs(sender.is_idle(), True)
                self.assertIs(sender.has_piece(250), False)
                self.assertIsNone(sender.send(250))

    def test_other_numbers_of_bits_are_refused(self):
        for bits in (2, 7, 0, 1, -3, 8, 64):
            with self.assertRaises(NotValid, msg=bits):
                Sender(bits, 1)

    def test_other_windows_are_refused(self):
        for bits in ALL_BITS:
            for window in (0, -1, 2 ** (bits - 1) + 1, 2 ** bits):
                with self.assertRaises(NotValid, msg=(bits, window)):
                    Sender(bits, window)

    def test_the_patience(self):
        self.assertEqual(PATIENCE, 4)


class PutTest(unittest.TestCase):
    def test_packets_wait_in_their_order_and_have_no_number_yet(self):
        sender = sender_of(3, 4, [[9], packet_of(200), [0, 255]])
        self.assertEqual(sender.waiting(), [[9], packet_of(200), [0, 255]])
        self.assertEqual((sender.low, sender.next, sender.unconfirmed()), (0, 0, []))
        self.assertIs(sender.is_idle(), False)

    def test_more_packets_than_the_window_wait(self):
        sender = sender_of(3, 1, [[at] for at in range(50)])
        self.assertEqual(len(sender.waiting()), 50)

    def test_others_are_refused_and_change_nothing(self):
        sender = sender_of(4, 2, [[1, 2], [3]])
        sender.send(2)
        before = state_of(sender)
        for packet in ([], packet_of(201), packet_of(300), [256], [-1], [1, 2, 256], [-1, 3], [0, 1000, 0]):
            held = list(packet)
            with self.assertRaises(NotValid, msg=packet):
                sender.put(packet)
            self.assertEqual(packet, held)
            self.assertEqual(state_of(sender), before)

    def test_what_is_no_list_of_integers_is_refused(self):
        sender = Sender(4, 2)
        for packet in ((1, 2), "ab", None, 7, {1: 2}, [True], [1, False], ["1"], [None], [[1]]):
            with self.assertRaises(NotValid, msg=packet):
                sender.put(packet)
        self.assertIs(sender.is_idle(), True)

    def test_what_is_passed_and_returned_is_not_shared(self):
        packet = [1, 2, 3]
        sender = sender_of(4, 2, [packet, [4]])
        packet[0] = 9
        self.assertEqual(sender.waiting(), [[1, 2, 3], [4]])
        sender.waiting()[0].append(7)
        sender.waiting().append([7])
        self.assertEqual(sender.waiting(), [[1, 2, 3], [4]])
        piece = sender.send(3)
        piece[1] = 99
        held = sender.unconfirmed()
        held[0][1].append(7)
        held.append(7)
        self.assertEqual(sender.unconfirmed(), [(0, [1, 2, 3])])
        before = sender.unconfirmed()
        sender.take_status(0, [(0, 0, 255)])
        sender.send(250)
        self.assertEqual(before, [(0, [1, 2, 3])])


class NumbersTest(unittest.TestCase):
    def test_a_packet_gets_its_number_when_its_first_byte_is_sent(self):
        sender = sender_of(3, 4, [[1, 2, 3], [4]])
        sender.send(2)
        self.assertEqual((sender.low, sender.next), (0, 1))
        self.assertEqual(sender.unconfirmed(), [(0, [1, 2, 3])])
        self.assertEqual(sender.waiting(), [[4]])
        sender.send(9)
        self.assertEqual((sender.low, sender.next), (0, 1))
        sender.send(9)
        self.assertEqual((sender.low, sender.next), (0, 2))
        self.assertEqual((sender.unconfirmed(), sender.waiting()), ([(0, [1, 2, 3]), (1, [4])], []))

    def test_low_is_the_least_that_is_not_confirmed_and_next_if_all_are(self):
        sender = sender_of(3, 4, [[1], [2], [3]])
        drained(sender)
        self.assertEqual(sender.take_status(3, [(0, 0, 255), (2, 0, 255)]), [1])
        self.assertEqual((sender.low, sender.next), (0, 3))
        self.assertEqual(sender.unconfirmed(), [(0, [1]), (2, [3])])
        self.assertEqual(sender.take_status(3, [(2, 0, 255)]), [0])
        self.assertEqual((sender.low, sender.next), (2, 3))
        self.assertEqual(sender.take_status(3, []), [2])
        self.assertEqual((sender.low, sender.next), (3, 3))
        self.assertIs(sender.is_idle(), True)

    def test_a_new_packet_is_begun_only_within_the_window(self):
        for bits in ALL_BITS:
            for window in sorted({1, 2, 2 ** (bits - 1)}):
                sender = sender_of(bits, window, [[at] for at in range(window + 2)])
                self.assertEqual([body for _, _, _, body in drained(sender)], [[at] for at in range(window)])
                self.assertEqual((sender.low, sender.next), (0, window))
                self.assertEqual(sender.waiting(), [[window], [window + 1]])
                sender.take_status(1, [])
                self.assertEqual([body for _, _, _, body in drained(sender)], [[window]])
                self.assertEqual((sender.low, sender.next), (1, window + 1))

    def test_a_confirmed_number_above_low_does_not_move_the_window(self):
        sender = sender_of(3, 4, [[at] for at in range(6)])
        drained(sender)
        self.assertEqual(sender.take_status(4, [(0, 0, 255)]), [1, 2, 3])
        self.assertEqual(drained(sender), [(0, WHOLE, 0, [0])])
        self.assertEqual((sender.low, sender.next, sender.waiting()), (0, 4, [[4], [5]]))

    def test_confirmed_packets_are_forgotten(self):
        sender = sender_of(4, 8, [[at, at] for at in range(30)])
        most = 0
        while not sender.is_idle():
            drained(sender, 4)
            most = max(most, len(sender.unconfirmed()))
            low, upto = sender.low, sender.low + 3 if sender.waiting() else sender.next
            self.assertEqual(sender.take_status(upto % 16, []), list(range(low, upto)))
            self.assertEqual([number for number, _ in sender.unconfirmed()], list(range(sender.low, sender.next)))
        self.assertEqual(most, 8)
        self.assertEqual((sender.unconfirmed(), sender.waiting(), sender.low, sender.next), ([], [], 30, 30))

    def test_nothing_is_left_of_packets_that_are_confirmed(self):
        sender = Sender(3, 4)
        for number in range(50):
            sender.put([number, 1])
            drained(sender, 4)
            sender.take_status((number + 1) % 8, [])
        held = [value for value in vars(sender).values() if isinstance(value, (list, dict))]
        self.assertEqual([len(value) for value in held], [0] * len(held))


class SendTest(unittest.TestCase):
    def test_the_example(self):
        sender = sender_of(3, 4, [[1, 2, 3]])
        self.assertEqual(sender.send(3), [2, 1, 2])
        self.assertEqual(sender.send(4), [68, 4, 3])
        self.assertIsNone(sender.send(9))

    def test_the_short_numbers_begin_anew(self):
        sender = Sender(3, 4)
        for number in range(20):
            sender.put([number])
            self.assertEqual(sender.send(9), data_piece(3, True, number, WHOLE, 0, [number]))
            self.assertEqual(sender.take_status((number + 1) % 8, []), [number])

    def test_first_what_was_asked_again_then_the_rest_then_a_beginning(self):
        sender = sender_of(4, 8, [packet_of(6), packet_of(6, 50), packet_of(4, 90)])
        sender.send(9)
        sender.send(4)
        sender.take_status(2, [(0, 1, 2), (0, 5, 5), (1, 1, 1)])
        self.assertEqual(drained(sender, 9), [
            (0, WITHIN, 1, packet_of(6)[1:3]), (0, END, 5, packet_of(6)[5:]),
            (1, WITHIN, 1, packet_of(6, 50)[1:2]), (1, END, 3, packet_of(6, 50)[3:]),
            (2, WHOLE, 0, packet_of(4, 90)),
        ])

    def test_ranges_are_sent_by_number_and_byte_however_they_were_told(self):
        sender = sender_of(4, 8, [packet_of(9), packet_of(9, 60)])
        drained(sender)
        sender.take_status(2, [(1, 7, 7), (0, 5, 5), (1, 0, 1), (0, 0, 0), (0, 2, 3)])
        self.assertEqual(
            [(number, offset, len(body)) for number, _, offset, body in drained(sender)],
            [(0, 0, 1), (0, 2, 2), (0, 5, 1), (1, 0, 2), (1, 7, 1)],
        )

    def test_a_range_that_does_not_fit_is_sent_in_several_pieces(self):
        sender = sender_of(4, 8, [packet_of(9), [5]])
        drained(sender)
        sender.take_status(2, [(0, 2, 6), (1, 0, 255)])
        self.assertEqual(drained(sender, 4), [
            (0, WITHIN, 2, packet_of(9)[2:4]), (0, WITHIN, 4, packet_of(9)[4:6]),
            (0, WITHIN, 6, packet_of(9)[6:7]), (1, WHOLE, 0, [5]),
        ])

    def test_a_piece_does_not_go_on_behind_its_range(self):
        sender = sender_of(4, 8, [packet_of(9)])
        drained(sender)
        sender.take_status(1, [(0, 0, 3), (0, 5, 8)])
        self.assertEqual(drained(sender), [(0, BEGINNING, 0, packet_of(9)[:4]), (0, END, 5, packet_of(9)[5:])])

    def test_the_poll_stands_just_where_nothing_is_left(self):
        sender = sender_of(4, 2, [packet_of(5), [7], [8]])
        polls = []
        while sender.has_piece(4):
            polls.append(read_piece(4, sender.send(4))[1:3])
        # [8] waits, but may not be begun.
        self.assertEqual(polls, [(False, 0), (False, 0), (True, 1)])
        sender.take_status(2, [(0, 0, 0), (0, 2, 2)])
        self.assertIs(read_piece(4, sender.send(4))[1], False)
        # Number 1 is confirmed, but number 0 is not: [8] may not be begun yet.
        self.assertIs(read_piece(4, sender.send(4))[1], True)
        sender.take_status(2, [])
        self.assertIs(read_piece(4, sender.send(4))[1], True)

    def test_the_poll_of_a_range_behind_which_a_beginning_is_left(self):
        sender = sender_of(4, 2, [[1, 2], [3]])
        sender.send(4)
        sender.take_status(1, [(0, 0, 0)])
        self.assertEqual(read_piece(4, sender.send(4)), ("data", False, 0, BEGINNING, 0, [1]))
        self.assertEqual(read_piece(4, sender.send(4)), ("data", True, 1, WHOLE, 0, [3]))

    def test_every_piece_fits_and_takes_as_many_bytes_as_fit(self):
        for bits in ALL_BITS:
            for room in range(2, 30):
                sender = sender_of(bits, 2, [packet_of(20)])
                found = []
                while sender.has_piece(room):
                    before = len(found)
                    piece = sender.send(room)
                    found += read_piece(bits, piece)[5]
                    self.assertLessEqual(len(piece), room)
                    if len(found) < 20:
                        self.assertEqual(len(piece), room)
                    self.assertGreater(len(found), before)
                if room > 3:
                    self.assertEqual(found, packet_of(20))

    def test_no_piece_where_the_room_is_too_small(self):
        # The heads of beginnings have the first number of bytes, those of ranges within the second.
        for bits, head, far_head in ((3, 1, 2), (4, 1, 2), (5, 2, 3), (6, 2, 3)):
            sender = sender_of(bits, 4, [packet_of(5), [1]])
            for size, sent in ((head, 1), (far_head, 2), (far_head, 3)):
                before = state_of(sender)
                for room in range(-1, size + 1):
                    self.assertIs(sender.has_piece(room), False)
                    self.assertIsNone(sender.send(room))
                    self.assertEqual(state_of(sender), before)
                self.assertEqual(len(sender.send(size + 1)), size + 1)

    def test_a_room_that_is_too_small_for_a_range_sends_nothing_behind_it(self):
        sender = sender_of(3, 4, [packet_of(5), [1]])
        sender.send(9)
        sender.take_status(1, [(0, 2, 2)])
        self.assertIs(sender.has_piece(2), False)
        self.assertIsNone(sender.send(2))
        self.assertEqual((sender.next, sender.waiting()), (1, [[1]]))
        self.assertEqual(read_piece(3, sender.send(4)), ("data", False, 0, WITHIN, 2, packet_of(5)[2:3]))

    def test_asking_changes_nothing(self):
        sender = sender_of(3, 4, [[1, 2, 3], [4]])
        for _ in range(3):
            before = state_of(sender)
            for room in (0, 1, 2, 3, 4, 250, 1000):
                self.assertIn(sender.has_piece(room), (True, False))
            self.assertEqual(state_of(sender), before)
            sender.send(3)


class StatusTest(unittest.TestCase):
    def test_upto_is_read_from_low_on(self):
        for bits in ALL_BITS:
            window = 2 ** (bits - 1)
            sender = Sender(bits, window)
            for number in range(3 * 2 ** bits):
                sender.put([number % 256])
                drained(sender)
                if number % 3 == 2:
                    low = sender.low
                    self.assertEqual(sender.take_status((number + 1) % 2 ** bits, []), list(range(low, number + 1)))
                    self.assertEqual(sender.low, number + 1)

    def test_an_upto_above_next_is_passed_over(self):
        for upto in (4, 5, 6, 7, 0, 1):
            sender = sender_of(3, 4, [[1], [2, 2]])
            drained(sender)
            sender.take_status(2, [])
            sender.put([3, 3, 3])
            sender.send(3)
            sender.take_status(3, [(2, 0, 0)])
            before = state_of(sender)
            # low is 2 and next is 3, so only the short numbers 2 and 3 stand for numbers up to next.
            self.assertIsNone(sender.take_status(upto, []), msg=upto)
            self.assertIsNone(sender.take_status(upto, [(2, 0, 255)]), msg=upto)
            self.assertEqual(state_of(sender), before)
            self.assertEqual(drained(sender), [(2, BEGINNING, 0, [3]), (2, END, 2, [3])])

    def test_an_upto_of_low_confirms_nothing_and_asks_for_nothing(self):
        sender = sender_of(3, 4, [[1], [2]])
        drained(sender)
        sender.take_status(2, [(0, 0, 0), (1, 0, 0)])
        self.assertEqual(sender.take_status(0, [(0, 0, 0), (1, 0, 0)]), [])
        self.assertEqual((sender.low, sender.next), (0, 2))
        self.assertIs(sender.has_piece(250), False)

    def test_the_numbers_of_ranges_are_read_from_low_on(self):
        sender = Sender(3, 4)
        for number in range(14):
            sender.put([number, 100])
            drained(sender)
            if number < 10:
                sender.take_status((number + 1) % 8, [])
        self.assertEqual((sender.low, sender.next), (10, 14))
        self.assertEqual(sender.take_status(14 % 8, [(13 % 8, 1, 1), (10 % 8, 0, 0)]), [11, 12])
        self.assertEqual(drained(sender), [(10 % 8, BEGINNING, 0, [10]), (13 % 8, END, 1, [100])])
        # The number of a range that lies below low stands for one far above it.
        self.assertEqual(sender.take_status(14 % 8, [(9 % 8, 0, 0)]), [10, 13])

    def test_ranges_are_read_from_the_low_of_before_the_status(self):
        sender = sender_of(3, 4, [[1], [2], [3], [4]])
        drained(sender)
        sender.take_status(2, [])
        sender.put([5])
        sender.put([6])
        drained(sender)
        self.assertEqual((sender.low, sender.next), (2, 6))
        self.assertEqual(sender.take_status(6, [(4, 0, 255), (5, 0, 255)]), [2, 3])
        self.assertEqual([body for _, _, _, body in drained(sender)], [[5], [6]])

    def test_numbers_from_upto_on_are_neither_confirmed_nor_asked_for(self):
        sender = sender_of(4, 8, [[1], [2], [3], [4]])
        drained(sender)
        self.assertEqual(sender.take_status(2, [(1, 0, 0), (2, 0, 0), (3, 0, 255)]), [0])
        self.assertEqual(sender.unconfirmed(), [(1, [2]), (2, [3]), (3, [4])])
        self.assertEqual(drained(sender), [(1, WHOLE, 0, [2])])

    def test_each_number_is_confirmed_once(self):
        sender = sender_of(4, 8, [[1], [2], [3]])
        drained(sender)
        self.assertEqual(sender.take_status(3, [(0, 0, 0)]), [1, 2])
        self.assertEqual(sender.take_status(3, [(0, 0, 0)]), [])
        self.assertEqual(sender.take_status(3, []), [0])
        self.assertEqual(sender.take_status(3, []), [])

    def test_a_range_of_a_confirmed_number_is_left_out(self):
        sender = sender_of(4, 8, [[1], [2], [3]])
        drained(sender)
        sender.take_status(3, [(0, 0, 0)])
        self.assertEqual(sender.take_status(3, [(0, 0, 0), (1, 0, 0), (2, 0, 255)]), [])
        self.assertEqual(sender.unconfirmed(), [(0, [1])])
        self.assertEqual(drained(sender), [(0, WHOLE, 0, [1])])

    def test_a_begun_packet_is_confirmed_and_not_sent_on(self):
        sender = sender_of(4, 8, [packet_of(9), [5]])
        sender.send(4)
        self.assertEqual(sender.take_status(1, []), [0])
        self.assertEqual((sender.low, sender.next, sender.unconfirmed()), (1, 1, []))
        self.assertEqual(drained(sender), [(1, WHOLE, 0, [5])])

    def test_a_begun_packet_that_is_confirmed_leaves_nothing(self):
        sender = sender_of(4, 8, [packet_of(9)])
        sender.send(4)
        sender.take_status(1, [])
        self.assertIs(sender.has_piece(250), False)
        self.assertIs(sender.is_idle(), True)

    def test_ranges_that_follow_one_another_or_overlap_are_one(self):
        for missing in (
            [(0, 2, 4), (0, 5, 7)], [(0, 5, 7), (0, 2, 4)], [(0, 2, 6), (0, 4, 7)], [(0, 2, 7), (0, 3, 4)],
            [(0, 2, 7), (0, 2, 7)], [(0, at, at) for at in (7, 2, 4, 3, 6, 5)],
        ):
            sender = sender_of(4, 8, [packet_of(9)])
            drained(sender)
            sender.take_status(1, missing)
            self.assertEqual(drained(sender), [(0, WITHIN, 2, packet_of(9)[2:8])], msg=missing)

    def test_rows_of_two_packets_are_two_ranges(self):
        sender = sender_of(4, 8, [[1, 2], [3, 4]])
        drained(sender)
        sender.take_status(2, [(0, 0, 1), (1, 0, 1)])
        self.assertEqual(drained(sender), [(0, WHOLE, 0, [1, 2]), (1, WHOLE, 0, [3, 4])])

    def test_bytes_that_the_packet_does_not_have_are_left_out(self):
        sender = sender_of(4, 8, [packet_of(9)])
        drained(sender)
        self.assertEqual(sender.take_status(1, [(0, 7, 255)]), [])
        self.assertEqual(drained(sender), [(0, END, 7, packet_of(9)[7:])])
        self.assertEqual(sender.take_status(1, [(0, 8, 9)]), [])
        self.assertEqual(drained(sender), [(0, END, 8, packet_of(9)[8:])])
        # The range is told, so the packet is not confirmed; but it has no such byte.
        self.assertEqual(sender.take_status(1, [(0, 9, 255)]), [])
        self.assertEqual(sender.unconfirmed(), [(0, packet_of(9))])
        self.assertIs(sender.has_piece(250), False)

    def test_bytes_ahead_of_the_first_one_are_left_out(self):
        sender = sender_of(4, 8, [packet_of(9)])
        drained(sender)
        self.assertEqual(sender.take_status(1, [(0, -3, 1)]), [])
        self.assertEqual(drained(sender), [(0, BEGINNING, 0, packet_of(9)[:2])])

    def test_bytes_that_were_not_sent_are_left_out(self):
        sender = sender_of(4, 8, [packet_of(9)])
        sender.send(5)
        self.assertEqual(sender.take_status(1, [(0, 2, 255)]), [])
        self.assertEqual(drained(sender), [(0, WITHIN, 2, packet_of(9)[2:4]), (0, END, 4, packet_of(9)[4:])])
        sender = sender_of(4, 8, [packet_of(9)])
        sender.send(5)
        self.assertEqual(sender.take_status(1, [(0, 4, 255)]), [])
        self.assertEqual(drained(sender), [(0, END, 4, packet_of(9)[4:])])

    def test_a_range_whose_last_byte_is_ahead_of_its_first_has_no_byte(self):
        sender = sender_of(4, 8, [packet_of(9)])
        drained(sender)
        self.assertEqual(sender.take_status(1, [(0, 5, 3)]), [])
        self.assertEqual(sender.unconfirmed(), [(0, packet_of(9))])
        self.assertIs(sender.has_piece(250), False)

    def test_a_status_replaces_what_was_asked_for_before(self):
        sender = sender_of(4, 8, [packet_of(9), packet_of(9, 5)])
        drained(sender)
        sender.take_status(2, [(0, 0, 4), (1, 3, 3)])
        sender.send(4)
        sender.take_status(2, [(0, 7, 7), (1, 0, 255)])
        self.assertEqual(drained(sender), [(0, WITHIN, 7, packet_of(9)[7:8]), (1, WHOLE, 0, packet_of(9, 5))])
        sender.take_status(2, [(0, 0, 4), (1, 3, 3)])
        self.assertEqual(sender.take_status(2, []), [0, 1])
        self.assertIs(sender.has_piece(250), False)

    def test_what_is_passed_stays_as_it_was(self):
        sender = sender_of(4, 8, [packet_of(9), [1]])
        drained(sender)
        missing = [(1, 0, 255), (0, 5, 6), (0, 1, 1)]
        confirmed = sender.take_status(2, missing)
        confirmed.append(9)
        self.assertEqual(missing, [(1, 0, 255), (0, 5, 6), (0, 1, 1)])
        missing.clear()
        self.assertEqual([body for _, _, _, body in drained(sender)], [packet_of(9)[1:2], packet_of(9)[5:7], [1]])


class QuietTurnsTest(unittest.TestCase):
    def test_after_four_all_bytes_of_the_packet_low_are_sent_again_and_again(self):
        sender = sender_of(4, 8, [packet_of(9), [5]])
        drained(sender)
        for _ in range(3):
            for _ in range(3):
                sender.tick()
                self.assertIs(sender.has_piece(250), False)
            sender.tick()
            self.assertEqual(drained(sender), [(0, WHOLE, 0, packet_of(9))])

    def test_it_is_the_packet_low_that_is_sent_again(self):
        sender = sender_of(4, 8, [[1], [2], [3]])
        drained(sender)
        sender.take_status(3, [(1, 0, 0), (2, 0, 0)])
        drained(sender)
        self.assertEqual(quiet_turns(sender), 5)
        self.assertEqual(drained(sender), [(1, WHOLE, 0, [2])])

    def test_all_bytes_are_sent_again_though_only_some_were_asked_for(self):
        sender = sender_of(4, 8, [packet_of(9)])
        drained(sender)
        sender.take_status(1, [(0, 3, 4)])
        drained(sender)
        quiet_turns(sender)
        self.assertEqual(drained(sender), [(0, WHOLE, 0, packet_of(9))])

    def test_nothing_is_sent_where_nothing_is_unconfirmed(self):
        sender = Sender(4, 8)
        self.assertIsNone(quiet_turns(sender))
        sender.put([1])
        drained(sender)
        sender.take_status(1, [])
        self.assertIsNone(quiet_turns(sender))

    def test_turns_without_unconfirmed_packets_do_not_count(self):
        sender = Sender(4, 8)
        for _ in range(7):
            sender.tick()
        sender.put([1])
        drained(sender)
        self.assertEqual(quiet_turns(sender), 4)

    def test_a_turn_in_which_something_is_left_is_not_quiet(self):
        sender = sender_of(4, 8, [packet_of(9)])
        drained(sender)
        for turns in range(1, 4):
            for _ in range(turns):
                sender.tick()
            sender.put([turns])
            sender.tick()
            drained(sender)
        self.assertEqual(quiet_turns(sender), 4)
        self.assertEqual(drained(sender), [(0, WHOLE, 0, packet_of(9))])

    def test_each_of_the_three_that_is_left_makes_a_turn_not_quiet(self):
        sender = sender_of(4, 1, [packet_of(9), [5]])
        sender.send(4)
        for _ in range(9):
            sender.tick()
        self.assertEqual(drained(sender), [(0, END, 3, packet_of(9)[3:])])
        sender.take_status(1, [(0, 0, 1)])
        for _ in range(9):
            sender.tick()
        self.assertEqual(drained(sender), [(0, BEGINNING, 0, packet_of(9)[:2])])
        sender.take_status(1, [])
        for _ in range(9):
            sender.tick()
        self.assertEqual(drained(sender), [(1, WHOLE, 0, [5])])

    def test_a_packet_that_may_not_be_begun_does_not_count_as_left(self):
        sender = sender_of(4, 1, [[1], [2]])
        drained(sender)
        self.assertEqual(quiet_turns(sender), 4)
        self.assertEqual(drained(sender), [(0, WHOLE, 0, [1])])

    def test_a_status_begins_the_count_anew_and_its_turn_is_not_quiet(self):
        for turns in range(4):
            sender = sender_of(4, 8, [[1], [2]])
            drained(sender)
            for _ in range(turns):
                sender.tick()
            sender.take_status(0, [])
            # The turn of the status, and four quiet ones.
            self.assertEqual(quiet_turns(sender), 5)

    def test_a_status_that_is_passed_over_does_not(self):
        for turns in range(4):
            sender = sender_of(4, 8, [[1], [2]])
            drained(sender)
            for _ in range(turns):
                sender.tick()
            self.assertIsNone(sender.take_status(3, []))
            self.assertEqual(quiet_turns(sender), 4 - turns)

    def test_a_status_after_the_fourth_quiet_turn_replaces_what_is_sent_again(self):
        sender = sender_of(4, 8, [packet_of(9)])
        drained(sender)
        quiet_turns(sender)
        sender.take_status(1, [(0, 2, 2)])
        self.assertEqual(drained(sender), [(0, WITHIN, 2, packet_of(9)[2:3])])


class PlainSender:
    """Points [12] to [16] once more, byte by byte and without forgetting."""

    def __init__(self, bits, window):
        self.bits, self.window = bits, window
        self.packets, self.sent, self.confirmed = [], {}, set()
        self.asked, self.quiet, self.heard = set(), 0, False

    def next(self):
        return len(self.sent)

    def low(self):
        return min(set(range(self.next() + 1)) - self.confirmed)

    def choice(self):
        """The number, the first byte and how many bytes may follow it; None if nothing is left."""
        if self.asked:
            number, start = min(self.asked)
            stop = start
            while (number, stop) in self.asked:
                stop += 1
            return number, start, stop
        for number, sent in self.sent.items():
            if number not in self.confirmed and sent < len(self.packets[number]):
                return number, sent, len(self.packets[number])
        if self.next() < len(self.packets) and self.next() < self.low() + self.window:
            return self.next(), 0, len(self.packets[self.next()])
        return None

    def note(self, number, start, end):
        if self.asked:
            self.asked -= {(number, at) for at in range(start, end)}
        else:
            self.sent[number] = end

    def piece(self, poll, number, start, end):
        packet = self.packets[number]
        if start == 0:
            part = WHOLE if end == len(packet) else BEGINNING
        else:
            part = END if end == len(packet) else WITHIN
        return data_piece(self.bits, poll, number, part, start, packet[start:end])

    def send(self, room):
        if self.choice() is None:
            return None
        number, start, stop = self.choice()
        ends = [end for end in range(start + 1, stop + 1) if len(self.piece(False, number, start, end)) <= room]
        if not ends:
            return None
        self.note(number, start, ends[-1])
        return self.piece(self.choice() is None, number, start, ends[-1])

    def take_status(self, upto, missing):
        low = self.low()
        true = {number % 2 ** self.bits: number for number in range(low, low + 2 ** self.bits)}
        stop = true[upto]
        if stop > self.next():
            return None
        told = {true[number] for number, _, _ in missing}
        now = [number for number in range(low, stop) if number not in told and number not in self.confirmed]
        self.confirmed |= set(now)
        self.asked = {
            (true[number], at) for number, first, last in missing for at in range(first, last + 1)
            if true[number] < stop and true[number] not in self.confirmed and at < self.sent[true[number]]
        }
        self.quiet, self.heard = 0, True
        return now

    def tick(self):
        is_quiet = self.low() < self.next() and not self.heard and self.choice() is None
        self.quiet, self.heard = self.quiet + 1 if is_quiet else 0, False
        if self.quiet == 4:
            self.quiet = 0
            self.asked = {(self.low(), at) for at in range(self.sent[self.low()])}

    def unconfirmed(self):
        return [(number, self.packets[number]) for number in self.sent if number not in self.confirmed]


class PlainSenderTest(unittest.TestCase):
    def random_missing(self, chance, bits, low):
        missing = []
        for _ in range(chance.choice((0, 0, 1, 2, 5, 8))):
            number = (low + chance.randrange(-1, 2 ** (bits - 1) + 1)) % 2 ** bits
            first = chance.randrange(14)
            missing.append((number, first, chance.choice((first, first + chance.randrange(-1, 5), 255))))
        return missing

    def play(self, chance, bits, window):
        sender, plain = Sender(bits, window), PlainSender(bits, window)
        for _ in range(300):
            act = chance.randrange(10)
            if act < 2:
                packet = packet_of(chance.randrange(1, 14), chance.randrange(256))
                sender.put(packet)
                plain.packets.append(packet)
            elif act < 6:
                room = chance.choice((1, 2, 3, 4, 5, 9, 30))
                would = sender.has_piece(room)
                piece = sender.send(room)
                self.assertEqual(piece, plain.send(room))
                self.assertIs(would, piece is not None)
            elif act < 7:
                missing = self.random_missing(chance, bits, plain.low())
                upto = (plain.low() + chance.randrange(plain.next() - plain.low() + 2)) % 2 ** bits
                self.assertEqual(sender.take_status(upto, missing), plain.take_status(upto, missing))
            else:
                sender.tick()
                plain.tick()
            self.assertEqual((sender.low, sender.next), (plain.low(), plain.next()))
            self.assertEqual(sender.unconfirmed(), plain.unconfirmed())
            self.assertEqual(sender.waiting(), plain.packets[plain.next():])
            self.assertIs(sender.is_idle(), plain.low() == len(plain.packets))
            self.assertLessEqual(len(sender.unconfirmed()), window)

    def test_both_do_the_same_in_many_plays(self):
        for seed in range(60):
            chance = random.Random(seed)
            bits = chance.choice(ALL_BITS)
            self.play(chance, bits, chance.choice((1, 2, 3, 2 ** (bits - 1))))


if __name__ == "__main__":
    unittest.main()
