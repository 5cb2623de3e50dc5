"""Points [17] to [22]: the receiver of a link."""

import itertools
import random
import unittest

from bearerwise.errors import Broken, NotValid
from bearerwise.receiver import Receiver
from bearerwise.segments import data_piece, read_piece, status_bytes, status_piece

ALL_BITS = (3, 4, 5, 6)
WHOLE, BEGINNING, END, WITHIN = range(4)


def packet_of(size, seed=1):
    """A packet of so many bytes."""
    return [(at * 7 + seed) % 256 for at in range(size)]


def segment(bits, number, packet, start, stop, poll=False):
    """The data piece with the bytes of a packet from start to below stop."""
    if start == 0:
        part = WHOLE if stop == len(packet) else BEGINNING
    else:
        part = END if stop == len(packet) else WITHIN
    return data_piece(bits, poll, number, part, start, packet[start:stop])


def state_of(receiver):
    """All that can be seen of a receiver without changing it."""
    return (receiver.bits, receiver.low, receiver.is_due(), receiver.kept(), receiver.report(99))


def with_holes(bits, number, size, holes):
    """The pieces of a packet of this size but for these indexes, each with one byte."""
    packet = packet_of(size)
    return [segment(bits, number, packet, at, at + 1) for at in range(size) if at not in holes]


def taking(bits, pieces):
    receiver = Receiver(bits)
    for piece in pieces:
        receiver.take(piece)
    return receiver


class NewReceiverTest(unittest.TestCase):
    def test_the_fields(self):
        for bits in ALL_BITS:
            receiver = Receiver(bits)
            self.assertEqual((receiver.bits, receiver.low, receiver.kept()), (bits, 0, []))
            self.assertIs(receiver.is_due(), False)
            self.assertEqual(receiver.report(8), (0, []))
            self.assertIsNone(receiver.status(250))

    def test_other_numbers_of_bits_are_refused(self):
        for bits in (2, 7, 0, 1, -3, 8, 64):
            with self.assertRaises(NotValid, msg=bits):
                Receiver(bits)


class TakeTest(unittest.TestCase):
    def test_the_example(self):
        receiver = Receiver(4)
        self.assertIsNone(receiver.take(data_piece(4, False, 0, 1, 0, [7, 8])))
        self.assertEqual((receiver.kept(), receiver.report(8)), ([0], (1, [(0, 2, 255)])))
        self.assertIsNone(receiver.take(data_piece(4, True, 0, 2, 3, [9])))
        self.assertEqual(receiver.report(8), (1, [(0, 2, 2)]))
        self.assertEqual(receiver.take(data_piece(4, False, 0, 3, 2, [5])), (0, [7, 8, 5, 9]))
        self.assertEqual((receiver.low, receiver.kept()), (1, []))

    def test_a_whole_packet_at_once(self):
        for bits, size in itertools.product(ALL_BITS, (1, 2, 200)):
            receiver = Receiver(bits)
            packet = packet_of(size)
            self.assertEqual(receiver.take(segment(bits, 0, packet, 0, size)), (0, packet))
            self.assertEqual((receiver.low, receiver.kept(), receiver.report(8)), (1, [], (1, [])))

    def test_segments_in_any_order_some_of_them_again(self):
        packet = packet_of(9)
        cuts = [(0, 2), (2, 3), (3, 7), (7, 9)]
        for order in itertools.permutations(cuts):
            for again in range(4):
                receiver = Receiver(4)
                for start, stop in order[:again + 1] + order[:again]:
                    whole = receiver.take(segment(4, 0, packet, start, stop))
                    self.assertEqual(whole, None if again < 3 or (start, stop) != order[3] else (0, packet))
                    if whole is not None:
                        break
                for start, stop in order[again + 1:]:
                    whole = receiver.take(segment(4, 0, packet, start, stop))
                    self.assertEqual(whole, None if (start, stop) != order[3] else (0, packet))
                self.assertEqual((receiver.low, receiver.kept()), (1, []))

    def test_segments_that_overlap(self):
        packet = packet_of(9)
        receiver = Receiver(4)
        for start, stop in ((2, 6), (4, 8), (0, 3)):
            self.assertIsNone(receiver.take(segment(4, 0, packet, start, stop)))
        self.assertEqual(receiver.take(segment(4, 0, packet, 5, 9)), (0, packet))

    def test_the_whole_packet_behind_a_segment_of_it(self):
        receiver = Receiver(4)
        receiver.take(data_piece(4, False, 0, BEGINNING, 0, [1, 2]))
        self.assertEqual(receiver.take(data_piece(4, False, 0, WHOLE, 0, [9, 9, 3])), (0, [1, 2, 3]))

    def test_a_byte_that_comes_again_keeps_its_first_value(self):
        receiver = Receiver(4)
        receiver.take(data_piece(4, False, 0, WITHIN, 2, [5, 6]))
        receiver.take(data_piece(4, False, 0, WITHIN, 1, [10, 11, 12, 13]))
        receiver.take(data_piece(4, False, 0, END, 4, [99, 14]))
        self.assertEqual(
            receiver.take(data_piece(4, False, 0, BEGINNING, 0, [0, 77, 78])), (0, [0, 10, 5, 6, 13, 14])
        )

    def test_a_first_value_of_0_is_kept(self):
        receiver = Receiver(4)
        receiver.take(data_piece(4, False, 0, BEGINNING, 0, [0]))
        self.assertEqual(receiver.take(data_piece(4, False, 0, WHOLE, 0, [9, 8])), (0, [0, 8]))

    def test_a_beginning_stands_at_0_and_an_end_or_a_part_within_at_its_offset(self):
        receiver = Receiver(6)
        # Also at the offset 0, and though its bytes could have been cut otherwise.
        self.assertIsNone(receiver.take(data_piece(6, False, 0, WITHIN, 0, [1])))
        self.assertEqual(receiver.report(8), (1, [(0, 1, 255)]))
        self.assertEqual(receiver.take(data_piece(6, False, 0, END, 0, [1, 2])), (0, [1, 2]))

    def test_a_packet_is_handed_up_whichever_before_it_are_missing(self):
        receiver = Receiver(4)
        self.assertEqual(receiver.take(segment(4, 3, [3, 3], 0, 2)), (3, [3, 3]))
        self.assertEqual(receiver.take(segment(4, 1, [1], 0, 1)), (1, [1]))
        self.assertEqual((receiver.low, receiver.kept()), (0, []))
        self.assertEqual(receiver.take(segment(4, 0, [0], 0, 1)), (0, [0]))
        self.assertEqual(receiver.low, 2)
        self.assertIsNone(receiver.take(segment(4, 2, [2, 2], 0, 1)))
        self.assertEqual((receiver.low, receiver.kept()), (2, [2]))
        self.assertEqual(receiver.take(segment(4, 2, [2, 2], 1, 2)), (2, [2, 2]))
        self.assertEqual((receiver.low, receiver.kept()), (4, []))

    def test_each_packet_is_handed_up_once(self):
        for order in itertools.permutations(range(4)):
            receiver = Receiver(3)
            found = []
            for number in order:
                for _ in range(2):
                    for older in order:
                        if order.index(older) <= order.index(number):
                            found.append(receiver.take(segment(3, older, [older], 0, 1)))
            self.assertEqual([one for one in found if one is not None], [(number, [number]) for number in order])
            self.assertEqual(receiver.low, 4)

    def test_pieces_of_packets_that_are_whole_are_passed_over(self):
        receiver = Receiver(4)
        receiver.take(segment(4, 0, [1, 2], 0, 2))
        receiver.take(segment(4, 2, [3, 4], 0, 2))
        before = state_of(receiver)
        for number, part, offset, body in (
            (0, WHOLE, 0, [1, 2]), (0, BEGINNING, 0, [1]), (0, END, 1, [2]), (0, WITHIN, 100, [1]),
            (2, WHOLE, 0, [3, 4]), (2, BEGINNING, 0, [3]), (2, END, 7, [2]), (2, WITHIN, 1, [1]),
        ):
            self.assertIsNone(receiver.take(data_piece(4, False, number, part, offset, body)))
            self.assertEqual(state_of(receiver), before)

    def test_numbers_are_read_from_2_to_the_b_minus_1_behind_the_low_end_on(self):
        for bits in ALL_BITS:
            half = 2 ** (bits - 1)
            for low in (0, 1, half - 1, half, 2 * half, 2 * half + 3):
                for far in range(-half, half):
                    receiver = taking(bits, [segment(bits, number, [1], 0, 1) for number in range(low)])
                    self.assertEqual(receiver.low, low)
                    whole = receiver.take(data_piece(bits, False, low + far, WHOLE, 0, [5]))
                    self.assertEqual(whole, (low + far, [5]) if far >= 0 else None)
                    self.assertEqual(receiver.low, low + (far == 0))

    def test_at_most_half_of_the_numbers_are_kept(self):
        for bits in ALL_BITS:
            half = 2 ** (bits - 1)
            receiver = Receiver(bits)
            for number in range(2 ** bits):
                receiver.take(data_piece(bits, False, number, BEGINNING, 0, [1]))
            self.assertEqual(receiver.kept(), list(range(half)))

    def test_nothing_is_left_of_packets_below_the_low_end(self):
        receiver = taking(3, [segment(3, number, [number, 1], at, at + 1) for number in range(50) for at in (1, 0)])
        self.assertEqual(receiver.low, 50)
        held = [value for value in vars(receiver).values() if isinstance(value, (list, dict))]
        self.assertEqual([len(value) for value in held], [0] * len(held))

    def test_the_numbers_that_are_kept_ascend(self):
        receiver = taking(5, [data_piece(5, False, number, BEGINNING, 0, [1]) for number in (7, 2, 9, 0, 5)])
        self.assertEqual(receiver.kept(), [0, 2, 5, 7, 9])

    def test_what_is_passed_and_returned_is_not_shared(self):
        receiver = Receiver(4)
        piece = data_piece(4, True, 0, BEGINNING, 0, [1, 2])
        held = list(piece)
        receiver.take(piece)
        self.assertEqual(piece, held)
        piece[1] = 99
        kept, report = receiver.kept(), receiver.report(8)
        self.assertEqual((kept, report), ([0], (1, [(0, 2, 255)])))
        whole = receiver.take(data_piece(4, False, 0, END, 2, [3]))
        self.assertEqual(whole, (0, [1, 2, 3]))
        self.assertEqual((kept, report), ([0], (1, [(0, 2, 255)])))
        receiver.take(data_piece(4, False, 2, BEGINNING, 0, [1]))
        receiver.kept().append(9)
        receiver.report(8)[1].append(9)
        self.assertEqual((receiver.kept(), receiver.report(8)), ([2], (3, [(1, 0, 255), (2, 1, 255)])))


class BrokenTest(unittest.TestCase):
    def check_broken(self, receiver, piece):
        before = state_of(receiver)
        held = list(piece)
        with self.assertRaises(Broken, msg=piece):
            receiver.take(piece)
        self.assertEqual(piece, held)
        self.assertEqual(state_of(receiver), before)

    def test_what_is_no_data_piece(self):
        for bits in ALL_BITS:
            receiver = taking(bits, [data_piece(bits, False, 0, BEGINNING, 0, [1])])
            for piece in (
                [], data_piece(bits, True, 0, END, 3, [1])[:-1], data_piece(bits, True, 0, WHOLE, 0, [1])[:-1],
                status_piece(bits, 1, []), status_piece(bits, 1, [(0, 0, 255)]), [255, 255, 255],
            ):
                self.check_broken(receiver, piece)

    def test_a_byte_with_an_index_of_200_or_more(self):
        for part, offset, many in (
            (WHOLE, 0, 201), (BEGINNING, 0, 201), (END, 199, 2), (WITHIN, 199, 2), (END, 200, 1), (WITHIN, 200, 1),
            (WITHIN, 255, 1), (END, 1, 200),
        ):
            for number in (0, 1):
                receiver = taking(4, [data_piece(4, False, 0, BEGINNING, 0, [1])])
                self.check_broken(receiver, data_piece(4, True, number, part, offset, packet_of(many)))

    def test_a_byte_with_the_index_199_is_taken(self):
        for part, offset, many in (
            (WHOLE, 0, 200), (BEGINNING, 0, 200), (END, 199, 1), (WITHIN, 199, 1), (END, 1, 199), (WITHIN, 1, 199),
        ):
            receiver = Receiver(4)
            whole = receiver.take(data_piece(4, True, 0, part, offset, packet_of(many)))
            self.assertEqual(whole, (0, packet_of(200)) if part == WHOLE else None)
            self.assertIs(receiver.is_due(), True)

    def test_an_end_where_another_length_is_known(self):
        known = data_piece(4, False, 0, END, 4, [5, 6])
        for part, offset, body in (
            (END, 3, [5, 6]), (END, 4, [5]), (END, 5, [6, 7]), (END, 6, [7]), (END, 2, [1]),
            (WHOLE, 0, packet_of(5)), (WHOLE, 0, packet_of(7)), (WHOLE, 0, [1]),
        ):
            self.check_broken(taking(4, [known]), data_piece(4, True, 0, part, offset, body))
        for offset, body in ((4, [5, 6]), (5, [6]), (1, [2, 3, 4, 5, 6])):
            self.assertIsNone(taking(4, [known]).take(data_piece(4, True, 0, END, offset, body)))
        self.assertEqual(
            taking(4, [known]).take(data_piece(4, True, 0, WHOLE, 0, [1, 2, 3, 4, 0, 0])), (0, [1, 2, 3, 4, 5, 6])
        )

    def test_an_end_behind_which_a_byte_has_come(self):
        came = data_piece(4, False, 0, WITHIN, 4, [5, 6])
        for part, offset, body in (
            (END, 3, [4, 5]), (END, 4, [5]), (END, 1, [1]), (WHOLE, 0, packet_of(5)), (WHOLE, 0, [1]),
        ):
            self.check_broken(taking(4, [came]), data_piece(4, True, 0, part, offset, body))
        # The byte with the index 5 is not behind an end of 6 bytes, but at it.
        for offset, body in ((5, [6]), (3, [4, 5, 6]), (6, [7]), (9, [1])):
            self.assertIsNone(taking(4, [came]).take(data_piece(4, True, 0, END, offset, body)))
        self.assertEqual(
            taking(4, [came]).take(data_piece(4, True, 0, WHOLE, 0, [1, 2, 3, 4, 9, 9])), (0, [1, 2, 3, 4, 5, 6])
        )

    def test_no_end_at_or_behind_the_last_index_of_a_known_length(self):
        known = data_piece(4, False, 0, END, 4, [5, 6])
        for part, offset, body in (
            (WITHIN, 5, [6]), (WITHIN, 6, [7]), (WITHIN, 3, [4, 5, 6]), (WITHIN, 1, packet_of(20)), (WITHIN, 100, [1]),
            (BEGINNING, 0, packet_of(6)), (BEGINNING, 0, packet_of(7)),
        ):
            self.check_broken(taking(4, [known]), data_piece(4, True, 0, part, offset, body))
        for offset, body in ((4, [5]), (3, [4, 5]), (1, [2, 3, 4, 5])):
            self.assertIsNone(taking(4, [known]).take(data_piece(4, True, 0, WITHIN, offset, body)))
        self.assertEqual(
            taking(4, [known]).take(data_piece(4, True, 0, BEGINNING, 0, packet_of(5))), (0, packet_of(4) + [5, 6])
        )

    def test_the_length_of_another_packet_does_not_matter(self):
        receiver = taking(4, [data_piece(4, False, 0, END, 4, [5]), data_piece(4, False, 1, WITHIN, 9, [5])])
        self.assertIsNone(receiver.take(data_piece(4, False, 1, END, 12, [5])))
        self.assertIsNone(receiver.take(data_piece(4, False, 0, WITHIN, 1, [5])))
        self.check_broken(receiver, data_piece(4, True, 0, WITHIN, 9, [5]))

    def test_of_pieces_that_are_passed_over_only_the_first_two_are_looked_at(self):
        receiver = taking(4, [segment(4, 0, packet_of(5), 0, 5), segment(4, 2, packet_of(5), 0, 5)])
        for number in (0, 2, -1, -7):
            for part, offset, body in ((END, 1, [1]), (END, 9, [1]), (WITHIN, 4, [1]), (WHOLE, 0, [1])):
                self.assertIsNone(receiver.take(data_piece(4, False, number, part, offset, body)))
            self.check_broken(receiver, data_piece(4, True, number, WITHIN, 200, [1]))
            self.check_broken(receiver, data_piece(4, True, number, WHOLE, 0, packet_of(201)))
            self.check_broken(receiver, data_piece(4, True, number, WITHIN, 7, [1])[:-1])

    def test_a_packet_comes_whole_behind_broken_pieces(self):
        receiver = taking(4, [data_piece(4, False, 0, END, 2, [3])])
        self.check_broken(receiver, data_piece(4, False, 0, WITHIN, 1, [8, 8]))
        self.check_broken(receiver, data_piece(4, False, 0, WHOLE, 0, [8, 8]))
        self.assertEqual(receiver.take(data_piece(4, False, 0, BEGINNING, 0, [1, 2])), (0, [1, 2, 3]))

    def test_a_broken_piece_leaves_a_status_due(self):
        receiver = taking(4, [data_piece(4, True, 0, END, 2, [3])])
        self.check_broken(receiver, data_piece(4, False, 0, WITHIN, 1, [8, 8]))
        self.assertIs(receiver.is_due(), True)


class DueTest(unittest.TestCase):
    def test_behind_a_poll_and_only_behind_a_poll(self):
        for part, offset in ((WHOLE, 0), (BEGINNING, 0), (END, 3), (WITHIN, 3)):
            receiver = Receiver(4)
            receiver.take(data_piece(4, False, 0, part, offset, [1]))
            self.assertIs(receiver.is_due(), False)
            receiver.take(data_piece(4, True, 1, part, offset, [1]))
            self.assertIs(receiver.is_due(), True)
            receiver.take(data_piece(4, False, 2, part, offset, [1]))
            self.assertIs(receiver.is_due(), True)

    def test_behind_a_poll_of_a_piece_that_is_passed_over(self):
        for number in (0, 2, -5, -7):
            receiver = taking(4, [segment(4, 0, [1], 0, 1), segment(4, 2, [1], 0, 1)])
            self.assertIs(receiver.is_due(), False)
            self.assertIsNone(receiver.take(data_piece(4, True, number, WITHIN, 9, [1])))
            self.assertIs(receiver.is_due(), True)

    def test_until_the_next_status(self):
        receiver = taking(4, [segment(4, 0, [1], 0, 1, True)])
        receiver.report(8)
        self.assertIs(receiver.is_due(), True)
        self.assertEqual(receiver.status(250), status_piece(4, 1, []))
        self.assertIs(receiver.is_due(), False)
        self.assertIsNone(receiver.status(250))
        receiver.take(segment(4, 0, [1], 0, 1, True))
        self.assertEqual(receiver.status(250), status_piece(4, 1, []))


class ReportTest(unittest.TestCase):
    def test_upto_is_above_all_of_which_something_has_come(self):
        receiver = Receiver(5)
        for number, part, upto in ((3, BEGINNING, 4), (1, BEGINNING, 4), (6, WHOLE, 7), (2, WHOLE, 7), (0, WHOLE, 7)):
            receiver.take(data_piece(5, False, number, part, 0, [1]))
            self.assertEqual(receiver.report(99)[0], upto)
        self.assertEqual(receiver.report(99), (7, [(1, 1, 255), (3, 1, 255), (4, 0, 255), (5, 0, 255)]))

    def test_upto_is_the_low_end_if_nothing_above_it_has_come(self):
        receiver = taking(3, [segment(3, number, [1], 0, 1) for number in range(11)])
        self.assertEqual(receiver.report(8), (11, []))

    def test_the_longest_rows_of_bytes_that_have_not_come(self):
        packet = packet_of(20)
        receiver = taking(4, [segment(4, 0, packet, start, stop) for start, stop in ((3, 5), (5, 6), (9, 10))])
        self.assertEqual(receiver.report(8), (1, [(0, 0, 2), (0, 6, 8), (0, 10, 255)]))
        receiver.take(segment(4, 0, packet, 17, 20))
        self.assertEqual(receiver.report(8), (1, [(0, 0, 2), (0, 6, 8), (0, 10, 16)]))
        receiver.take(segment(4, 0, packet, 0, 4))
        self.assertEqual(receiver.report(8), (1, [(0, 6, 8), (0, 10, 16)]))

    def test_255_is_the_last_byte_while_the_length_is_not_known(self):
        receiver = taking(4, [data_piece(4, False, 0, BEGINNING, 0, packet_of(200))])
        self.assertEqual(receiver.report(8), (1, [(0, 200, 255)]))
        receiver = taking(4, [data_piece(4, False, 0, END, 199, [1])])
        self.assertEqual(receiver.report(8), (1, [(0, 0, 198)]))
        receiver = taking(4, [data_piece(4, False, 0, WITHIN, 199, [1])])
        self.assertEqual(receiver.report(8), (1, [(0, 0, 198), (0, 200, 255)]))

    def test_ascending_numbers_and_bytes(self):
        pieces = with_holes(4, 4, 9, (0, 1, 5)) + with_holes(4, 1, 9, (2, 4))
        self.assertEqual(taking(4, pieces).report(99), (5, [
            (0, 0, 255), (1, 2, 2), (1, 4, 4), (2, 0, 255), (3, 0, 255), (4, 0, 1), (4, 5, 5),
        ]))

    def test_true_numbers_are_told(self):
        receiver = taking(3, [segment(3, number, [1], 0, 1) for number in range(21)])
        receiver.take(segment(3, 22, [1, 2], 0, 1))
        self.assertEqual(receiver.report(8), (23, [(21, 0, 255), (22, 1, 255)]))

    def test_a_report_with_a_bound(self):
        # One range of 0, none of 1, three of 2, one of 3, two of 4.
        pieces = with_holes(4, 1, 2, ()) + with_holes(4, 2, 9, (1, 3, 5)) + with_holes(4, 4, 9, (2, 4))
        receiver = taking(4, pieces)
        told = [(0, 0, 255), (2, 1, 1), (2, 3, 3), (2, 5, 5), (3, 0, 255), (4, 2, 2), (4, 4, 4)]
        for most, upto, many in (
            (0, 0, 0), (1, 2, 1), (2, 2, 1), (3, 2, 1), (4, 3, 4), (5, 4, 5), (6, 4, 5), (7, 5, 7), (8, 5, 7), (99, 5, 7),
        ):
            self.assertEqual(receiver.report(most), (upto, told[:many]), msg=most)

    def test_a_bound_of_0_tells_the_low_end_and_whole_packets_above_it(self):
        receiver = taking(4, [segment(4, number, [1], 0, 1) for number in range(5)])
        self.assertEqual(receiver.report(0), (5, []))
        receiver.take(segment(4, 6, [1], 0, 1))
        self.assertEqual(receiver.report(0), (5, []))
        self.assertEqual(receiver.report(1), (7, [(5, 0, 255)]))


class StatusTest(unittest.TestCase):
    def test_every_room(self):
        for bits in ALL_BITS:
            pieces = with_holes(bits, 0, 19, range(1, 18, 2)[:3]) + with_holes(bits, 2, 19, range(1, 18, 2)[:5])
            for room in range(-1, 40):
                receiver = taking(bits, pieces + [data_piece(bits, True, 3, BEGINNING, 0, [1])])
                counts = [count for count in range(9) if status_bytes(bits, count) <= room]
                before = state_of(receiver)
                piece = receiver.status(room)
                if counts:
                    self.assertEqual(piece, status_piece(bits, *receiver.report(counts[-1])))
                    self.assertLessEqual(len(piece), room)
                    self.assertIs(receiver.is_due(), False)
                else:
                    self.assertIsNone(piece)
                    self.assertEqual(state_of(receiver), before)
                    self.assertIs(receiver.is_due(), True)

    def test_written_out(self):
        receiver = taking(4, [data_piece(4, True, 1, BEGINNING, 0, [1, 2])])
        self.assertIsNone(receiver.status(1))
        self.assertEqual(read_piece(4, receiver.status(2)), ("status", 0, []))
        for room, upto, missing in (
            (3, 0, []), (4, 1, [(0, 0, 255)]), (6, 1, [(0, 0, 255)]), (7, 2, [(0, 0, 255), (1, 2, 255)]),
        ):
            receiver.take(data_piece(4, True, 1, BEGINNING, 0, [1, 2]))
            self.assertEqual(read_piece(4, receiver.status(room)), ("status", upto, missing))

    def test_at_most_8_ranges(self):
        for holes, many in ((8, 8), (9, 0)):
            receiver = taking(4, with_holes(4, 0, 30, range(1, 28, 2)[:holes]) + [segment(4, 1, [1], 0, 1, True)])
            _, upto, missing = read_piece(4, receiver.status(1000))
            self.assertEqual((upto, len(missing)), (2 if many else 0, many))
        receiver = taking(6, [data_piece(6, True, 20, BEGINNING, 0, [1])])
        self.assertEqual(read_piece(6, receiver.status(1000)), ("status", 8, [(at, 0, 255) for at in range(8)]))

    def test_none_is_made_if_none_is_due(self):
        receiver = taking(4, [data_piece(4, False, 0, BEGINNING, 0, [1])])
        before = state_of(receiver)
        self.assertIsNone(receiver.status(1000))
        self.assertEqual(state_of(receiver), before)

    def test_a_status_changes_nothing_else(self):
        receiver = taking(4, [data_piece(4, True, 2, BEGINNING, 0, [1])])
        low, kept, report = receiver.low, receiver.kept(), receiver.report(99)
        receiver.status(1000)
        self.assertEqual((receiver.low, receiver.kept(), receiver.report(99)), (low, kept, report))

    def test_numbers_are_told_in_few_bits(self):
        receiver = taking(3, [segment(3, number, [1], 0, 1) for number in range(7)])
        receiver.take(segment(3, 9, [1, 2], 0, 1, True))
        self.assertEqual(read_piece(3, receiver.status(1000)), ("status", 2, [(7, 0, 255), (0, 0, 255), (1, 1, 255)]))


class PlainReceiver:
    """Points [17] to [22] once more, with all packets kept for ever."""

    def __init__(self, bits):
        self.bits, self.came, self.lengths, self.due = bits, {}, {}, False

    def is_whole(self, number):
        return number in self.lengths and self.came[number].keys() >= set(range(self.lengths[number]))

    def low(self):
        return next(number for number in itertools.count() if not self.is_whole(number))

    def true_number(self, told):
        low, half = self.low(), 2 ** (self.bits - 1)
        return [number for number in range(low - half, low + half) if number % 2 ** self.bits == told][0]

    def is_broken(self, number, part, indexes):
        came, length = self.came.get(number, {}), self.lengths.get(number)
        if part in (WHOLE, END):
            return length not in (None, indexes[-1] + 1) or any(at > indexes[-1] for at in came)
        return length is not None and any(at >= length - 1 for at in indexes)

    def take(self, piece):
        parts = read_piece(self.bits, piece)
        if parts is None or parts[0] == "status":
            return "broken"
        _, poll, told, part, offset, body = parts
        indexes = range(offset, offset + len(body))
        if 200 in indexes or offset > 200:
            return "broken"
        number = self.true_number(told)
        whole = None
        if number >= 0 and not self.is_whole(number):
            if self.is_broken(number, part, indexes):
                return "broken"
            self.came[number] = {**dict(zip(indexes, body)), **self.came.get(number, {})}
            if part in (WHOLE, END):
                self.lengths[number] = indexes[-1] + 1
            if self.is_whole(number):
                whole = (number, [self.came[number][at] for at in range(self.lengths[number])])
        self.due = self.due or poll
        return whole

    def ranges(self, number):
        came, size = self.came.get(number, {}), self.lengths.get(number, 256)
        firsts = [at for at in range(size) if at not in came and (at == 0 or at - 1 in came)]
        lasts = [at for at in range(size) if at not in came and (at == size - 1 or at + 1 in came)]
        return [(number, first, last) for first, last in zip(firsts, lasts)]

    def report(self, most):
        upto = max([self.low(), *[number + 1 for number in self.came]])
        missing = [one for number in range(self.low(), upto) for one in self.ranges(number)]
        while len(missing) > most:
            upto = missing[-1][0]
            missing = [one for one in missing if one[0] < upto]
        return (upto, missing)

    def kept(self):
        return sorted(number for number in self.came if not self.is_whole(number))


class PlainReceiverTest(unittest.TestCase):
    def random_piece(self, chance, bits, low, packets):
        number = low + chance.choice((-1, 0, 0, 1, 2, 3)) + chance.choice((0, 0, 0, 0, 2 ** (bits - 1) - 3))
        packet = packets.setdefault(number, packet_of(chance.choice((1, 2, 5, 30)), number))
        start = chance.randrange(len(packet))
        stop = chance.randrange(start, len(packet)) + 1
        if chance.random() < 0.2:
            start, stop = 0, len(packet)
        piece = segment(bits, number, packet, start, stop, chance.random() < 0.2)
        if chance.random() < 0.3:
            piece[chance.choice((0, 1, len(piece) - 1))] = chance.randrange(256)
        return piece

    def play(self, chance, bits):
        receiver, plain, packets = Receiver(bits), PlainReceiver(bits), {}
        for _ in range(150):
            piece = self.random_piece(chance, bits, plain.low(), packets)
            should = plain.take(piece)
            if should == "broken":
                with self.assertRaises(Broken):
                    receiver.take(piece)
            else:
                self.assertEqual(receiver.take(piece), should)
            self.assertEqual((receiver.low, receiver.kept()), (plain.low(), plain.kept()))
            self.assertIs(receiver.is_due(), plain.due)
            most = chance.randrange(9)
            self.assertEqual(receiver.report(most), plain.report(most))
            room = chance.choice((0, 1, 2, 4, 9, 30))
            status = receiver.status(room) if chance.random() < 0.3 else None
            if status is not None:
                plain.due = False

    def test_both_do_the_same_in_many_plays(self):
        for seed in range(40):
            chance = random.Random(seed)
            self.play(chance, chance.choice(ALL_BITS))


if __name__ == "__main__":
    unittest.main()
