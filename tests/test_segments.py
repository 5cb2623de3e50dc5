"""Points [4] to [7]: pieces and cutting."""

import itertools
import unittest

from bearerwise.errors import NotValid
from bearerwise.segments import (
    MOST_BYTES, MOST_MISSING, cut, data_piece, read_piece, status_bytes, status_piece,
)

ALL_BITS = (3, 4, 5, 6)


def bytes_of(bits):
    """The bytes of a string of bits, the bits that are left being 0."""
    bits = bits + "0" * (-len(bits) % 8)
    return [int(bits[at:at + 8], 2) for at in range(0, len(bits), 8)]


def in_bits(value, width):
    return format(value, "0%db" % width)


def data_head(bits, poll, number, part, offset):
    """The head of a data piece, written out by the words of point [5]."""
    row = "0" + ("1" if poll else "0") + in_bits(number % 2 ** bits, bits) + in_bits(part, 2)
    return row + in_bits(offset, 8) if part > 1 else row


def status_row(bits, upto, missing):
    """The bits of a status piece, written out by the words of point [6]."""
    row = "1" + in_bits(upto % 2 ** bits, bits) + in_bits(len(missing), 4)
    for number, first, last in missing:
        row += in_bits(number % 2 ** bits, bits) + in_bits(first, 8) + in_bits(last, 8)
    return row


def with_the_left_bits_set(row, behind):
    """The piece with these bits of fields, the bits that are left being 1."""
    return bytes_of(row + "1" * (-len(row) % 8)) + behind


class DataPieceTest(unittest.TestCase):
    def test_the_constants(self):
        self.assertEqual((MOST_BYTES, MOST_MISSING), (200, 8))

    def test_the_example(self):
        self.assertEqual(data_piece(4, True, 21, 0, 0, [7, 9]), [84, 7, 9])

    def test_written_out(self):
        self.assertEqual(data_piece(3, False, 0, 1, 0, [1, 2]), [2, 1, 2])
        self.assertEqual(data_piece(3, True, 0, 2, 2, [3]), [68, 4, 3])
        self.assertEqual(data_piece(6, True, 63, 3, 255, [0]), [127, 255, 192, 0])

    def test_all_parts_with_and_without_poll(self):
        for bits, poll, part in itertools.product(ALL_BITS, (False, True), range(4)):
            for number in (0, 1, 2 ** bits - 1, 2 ** bits, 2 ** bits + 5, 10 ** 24 + 3):
                for offset in (0, 1, 127, 199, 255):
                    body = [offset, 0, 255]
                    piece = data_piece(bits, poll, number, part, offset, body)
                    row = data_head(bits, poll, number, part, offset)
                    self.assertEqual(piece, bytes_of(row) + body)
                    told = ("data", poll, number % 2 ** bits, part, offset if part > 1 else 0, body)
                    self.assertEqual(read_piece(bits, piece), told)
                    self.assertEqual(read_piece(bits, with_the_left_bits_set(row, body)), told)

    def test_the_offset_of_the_parts_0_and_1_is_not_looked_at(self):
        for bits, part, offset in itertools.product(ALL_BITS, (0, 1), (-1, 7, 256, 10 ** 9)):
            self.assertEqual(
                data_piece(bits, False, 1, part, offset, [5]), data_piece(bits, False, 1, part, 0, [5])
            )

    def test_a_packet_of_the_greatest_length(self):
        body = [at % 256 for at in range(MOST_BYTES)]
        for bits in ALL_BITS:
            piece = data_piece(bits, True, 9, 0, 0, body)
            self.assertEqual(read_piece(bits, piece), ("data", True, 9 % 2 ** bits, 0, 0, body))

    def test_the_poll_is_read_as_true_or_false(self):
        self.assertIs(read_piece(4, [84, 7])[1], True)
        self.assertIs(read_piece(4, [20, 7])[1], False)

    def test_no_byte_of_a_piece_is_true_or_false(self):
        for one in data_piece(4, True, 1, 2, 0, [1]) + status_piece(4, 1, [(0, 0, 1)]):
            self.assertIs(type(one), int)

    def test_a_part_or_an_offset_that_does_not_fit_its_field_is_refused(self):
        for part, offset in ((4, 0), (-1, 0), (2, 256), (3, 256), (2, -1), (3, -1)):
            with self.assertRaises(NotValid, msg=(part, offset)):
                data_piece(4, False, 0, part, offset, [1])

    def test_what_is_passed_stays_as_it_was_and_what_is_returned_is_new(self):
        body = [7, 9]
        piece = data_piece(4, True, 21, 0, 0, body)
        piece.append(1)
        self.assertEqual(body, [7, 9])
        piece = [84, 7, 9]
        read_piece(4, piece)[5].append(1)
        self.assertEqual(piece, [84, 7, 9])


class StatusPieceTest(unittest.TestCase):
    def test_written_out(self):
        self.assertEqual(status_piece(3, 5, []), [208])
        self.assertEqual(status_piece(4, 18, []), [144, 0])
        self.assertEqual(status_piece(3, 1, [(0, 2, 255)]), [145, 0, 95, 224])

    def test_with_0_1_and_8_missing_ranges(self):
        for bits in ALL_BITS:
            far = 2 ** bits + 3
            eight = [(far + at // 2, 20 * at, 20 * at + 9) for at in range(7)] + [(far + 4, 0, 255)]
            for missing in ([], [(0, 0, 0)], [(far, 0, 255)], [(far, 199, 199)], eight):
                for upto in (0, 2 ** bits - 1, far, 10 ** 24):
                    piece = status_piece(bits, upto, missing)
                    row = status_row(bits, upto, missing)
                    self.assertEqual(piece, bytes_of(row))
                    self.assertEqual(len(piece), status_bytes(bits, len(missing)))
                    told = [(number % 2 ** bits, first, last) for number, first, last in missing]
                    self.assertEqual(read_piece(bits, piece), ("status", upto % 2 ** bits, told))
                    self.assertEqual(
                        read_piece(bits, with_the_left_bits_set(row, [])), ("status", upto % 2 ** bits, told)
                    )

    def test_the_ranges_are_read_as_tuples_in_a_list(self):
        _, _, missing = read_piece(4, status_piece(4, 2, [(0, 1, 2), (1, 0, 255)]))
        self.assertEqual(missing, [(0, 1, 2), (1, 0, 255)])
        self.assertIs(type(missing), list)
        self.assertEqual([type(one) for one in missing], [tuple, tuple])

    def test_nine_are_refused(self):
        for bits in ALL_BITS:
            for many in (9, 10, 16):
                with self.assertRaises(NotValid):
                    status_piece(bits, 1, [(0, at, at) for at in range(many)])

    def test_a_byte_that_does_not_fit_its_field_is_refused(self):
        for first, last in ((0, 256), (256, 0), (-1, 0), (0, -1)):
            with self.assertRaises(NotValid, msg=(first, last)):
                status_piece(4, 1, [(0, first, last)])

    def test_what_is_passed_stays_as_it_was(self):
        missing = [(0, 2, 255), (1, 0, 255)]
        status_piece(4, 2, missing)
        self.assertEqual(missing, [(0, 2, 255), (1, 0, 255)])
        nine = [(0, at, at) for at in range(9)]
        with self.assertRaises(NotValid):
            status_piece(4, 2, nine)
        self.assertEqual(nine, [(0, at, at) for at in range(9)])


class StatusBytesTest(unittest.TestCase):
    def test_written_out(self):
        self.assertEqual([status_bytes(bits, 0) for bits in ALL_BITS], [1, 2, 2, 2])
        self.assertEqual([status_bytes(bits, 1) for bits in ALL_BITS], [4, 4, 4, 5])
        self.assertEqual([status_bytes(bits, 8) for bits in ALL_BITS], [20, 22, 23, 24])

    def test_counts_above_8_are_reckoned(self):
        for bits in ALL_BITS:
            for count in (9, 10, 15, 16, 17, 100, 10 ** 9):
                self.assertEqual(status_bytes(bits, count), -(-(5 + bits + count * (16 + bits)) // 8))


class NoPieceTest(unittest.TestCase):
    def test_an_empty_list(self):
        for bits in ALL_BITS:
            self.assertIsNone(read_piece(bits, []))

    def test_a_data_piece_that_is_too_short_or_has_no_byte(self):
        for bits, part, offset in itertools.product(ALL_BITS, range(4), (0, 255)):
            piece = data_piece(bits, True, 3, part, offset, [7])
            for size in range(len(piece)):
                self.assertIsNone(read_piece(bits, piece[:size]), msg=(bits, part, size))
            self.assertIsNotNone(read_piece(bits, piece))

    def test_a_status_piece_with_a_byte_too_few_or_too_many(self):
        for bits, count in itertools.product(ALL_BITS, range(9)):
            piece = status_piece(bits, 3, [(at // 2, 9 * at, 9 * at + 3) for at in range(count)])
            for size in range(len(piece)):
                self.assertIsNone(read_piece(bits, piece[:size]), msg=(bits, count, size))
            self.assertIsNotNone(read_piece(bits, piece))
            for behind in ([0], [255], [0, 0]):
                self.assertIsNone(read_piece(bits, piece + behind), msg=(bits, count, behind))

    def test_a_status_piece_with_a_count_above_8(self):
        for bits, count in itertools.product(ALL_BITS, range(9, 16)):
            row = "1" + in_bits(3, bits) + in_bits(count, 4) + "0" * (count * (16 + bits))
            piece = bytes_of(row)
            self.assertEqual(len(piece), status_bytes(bits, count))
            self.assertIsNone(read_piece(bits, piece), msg=(bits, count))
            self.assertIsNone(read_piece(bits, piece[:status_bytes(bits, 8)]), msg=(bits, count))

    def test_what_is_passed_stays_as_it_was(self):
        for piece in ([], [84], [84, 7], [208], [208, 0], [255, 255]):
            before = list(piece)
            read_piece(3, piece)
            self.assertEqual(piece, before)


class CutTest(unittest.TestCase):
    def test_the_example(self):
        self.assertEqual(cut(4, False, 5, [1, 2, 3, 4], 0, 4, 3), ([21, 1, 2], 2))

    def test_written_out(self):
        self.assertEqual(cut(3, True, 0, [1, 2, 3], 2, 3, 4), ([68, 4, 3], 3))
        self.assertEqual(cut(4, True, 21, [7, 9], 0, 2, 9), ([84, 7, 9], 2))

    def test_the_piece_is_the_data_piece_of_its_bytes(self):
        packet = [at * 7 % 256 for at in range(12)]
        for bits, poll in itertools.product(ALL_BITS, (False, True)):
            for start, stop in itertools.combinations(range(len(packet) + 1), 2):
                for room in range(18):
                    self.check_cut(bits, poll, packet, start, stop, room)

    def check_cut(self, bits, poll, packet, start, stop, room):
        best = None
        for end in range(start + 1, stop + 1):
            if start == 0:
                part = 0 if end == len(packet) else 1
            else:
                part = 2 if end == len(packet) else 3
            piece = data_piece(bits, poll, 11, part, start, packet[start:end])
            if len(piece) <= room:
                best = (piece, end)
        self.assertEqual(cut(bits, poll, 11, packet, start, stop, room), best, msg=(bits, start, stop, room))

    def test_rooms_for_which_no_byte_just_one_and_just_all_fit(self):
        packet = [1, 2, 3, 4, 5]
        # The heads of the parts 0 and 1 take the first number of bytes, those of 2 and 3 the second.
        for bits, head, far_head in ((3, 1, 2), (4, 1, 2), (5, 2, 3), (6, 2, 3)):
            for room in range(-1, head + 1):
                self.assertIsNone(cut(bits, False, 0, packet, 0, 5, room))
            for room in range(-1, far_head + 1):
                self.assertIsNone(cut(bits, False, 0, packet, 1, 5, room))
            self.assertEqual(cut(bits, False, 0, packet, 0, 5, head + 1)[1], 1)
            self.assertEqual(cut(bits, False, 0, packet, 1, 5, far_head + 1)[1], 2)
            self.assertEqual(cut(bits, False, 0, packet, 0, 5, head + 4)[1], 4)
            self.assertEqual(cut(bits, False, 0, packet, 0, 5, head + 5)[1], 5)
            self.assertEqual(cut(bits, False, 0, packet, 1, 5, far_head + 3)[1], 4)
            self.assertEqual(cut(bits, False, 0, packet, 1, 5, far_head + 4)[1], 5)
            self.assertEqual(cut(bits, False, 0, packet, 0, 5, 1000)[1], 5)

    def test_the_parts(self):
        packet = [1, 2, 3, 4, 5]
        for start, stop, room, part in (
            (0, 5, 99, 0), (0, 5, 6, 0), (0, 5, 5, 1), (0, 4, 99, 1), (0, 1, 99, 1),
            (1, 5, 99, 2), (4, 5, 99, 2), (1, 5, 6, 2), (1, 5, 5, 3), (1, 4, 99, 3), (3, 4, 99, 3),
        ):
            piece, end = cut(4, False, 0, packet, start, stop, room)
            _, poll, number, read_part, offset, body = read_piece(4, piece)
            self.assertEqual(read_part, part, msg=(start, stop, room))
            self.assertEqual(offset, start if part > 1 else 0)
            self.assertEqual(body, packet[start:end])

    def test_a_packet_of_one_byte_is_the_whole(self):
        self.assertEqual(cut(4, False, 0, [9], 0, 1, 2), ([0, 9], 1))
        self.assertIsNone(cut(4, False, 0, [9], 0, 1, 1))

    def test_a_stop_behind_the_end_of_the_packet_is_its_end(self):
        self.assertEqual(cut(4, False, 0, [9, 8], 0, 3, 9), ([0, 9, 8], 2))
        self.assertEqual(cut(4, False, 0, [9, 8], 1, 3, 9), cut(4, False, 0, [9, 8], 1, 2, 9))

    def test_the_last_byte_of_the_greatest_packet(self):
        packet = [at for at in range(MOST_BYTES)]
        piece, end = cut(6, True, 64, packet, 199, 200, 9)
        self.assertEqual(read_piece(6, piece), ("data", True, 0, 2, 199, [199]))
        self.assertEqual(end, 200)

    def test_cutting_again_and_again_gives_the_bytes_from_the_start_to_the_stop(self):
        packet = [at * 5 % 256 for at in range(MOST_BYTES)]
        for bits, room in itertools.product(ALL_BITS, (4, 5, 9, 33, 64, 250)):
            for start, stop in ((0, 200), (0, 1), (0, 150), (1, 200), (7, 60), (199, 200)):
                at, found = start, []
                while at < stop:
                    piece, at = cut(bits, False, 3, packet, at, stop, room)
                    self.assertLessEqual(len(piece), room)
                    found += read_piece(bits, piece)[5]
                self.assertEqual(found, packet[start:stop])

    def test_what_is_passed_stays_as_it_was(self):
        packet = [1, 2, 3, 4]
        piece, _ = cut(4, False, 5, packet, 0, 4, 9)
        piece.append(7)
        self.assertEqual(packet, [1, 2, 3, 4])


if __name__ == "__main__":
    unittest.main()
