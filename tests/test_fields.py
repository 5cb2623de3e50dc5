"""Point [3]: small numbers side by side in bytes."""

import random
import unittest

from bearerwise.errors import NotValid
from bearerwise.fields import field_bytes, pack, unpack


def bits_of(widths, values):
    """The bits of the fields, filled up with 0 to whole bytes, as a string."""
    bits = "".join(format(value, "0%db" % width) for width, value in zip(widths, values))
    return bits + "0" * (-len(bits) % 8)


def bytes_of(widths, values):
    """What pack is to return, by way of a string of bits."""
    bits = bits_of(widths, values)
    return [int(bits[at:at + 8], 2) for at in range(0, len(bits), 8)]


class PackTest(unittest.TestCase):
    def test_the_examples(self):
        self.assertEqual(pack([1, 1, 4, 2], [0, 1, 5, 2]), [86])
        self.assertEqual(pack([5, 5], [31, 1]), [248, 64])

    def test_no_field_gives_no_byte(self):
        self.assertEqual(pack([], []), [])
        self.assertEqual(field_bytes([]), 0)
        self.assertEqual(unpack([], []), [])

    def test_width_1(self):
        self.assertEqual(pack([1], [0]), [0])
        self.assertEqual(pack([1], [1]), [128])
        self.assertEqual(pack([1] * 9, [1] * 9), [255, 128])

    def test_width_20(self):
        self.assertEqual(pack([20], [0]), [0, 0, 0])
        self.assertEqual(pack([20], [2 ** 20 - 1]), [255, 255, 240])
        self.assertEqual(pack([20], [1]), [0, 0, 16])
        self.assertEqual(pack([20], [2 ** 19]), [128, 0, 0])

    def test_fields_that_end_at_a_bytes_end(self):
        self.assertEqual(pack([3, 5], [7, 0]), [224])
        self.assertEqual(pack([8], [165]), [165])
        self.assertEqual(pack([16], [258]), [1, 2])

    def test_the_bits_that_are_left_are_0(self):
        self.assertEqual(pack([1, 2], [1, 3]), [224])
        self.assertEqual(pack([9], [511]), [255, 128])
        self.assertEqual(pack([7], [127]), [254])

    def test_many_fields_by_way_of_a_string_of_bits(self):
        chance = random.Random(3)
        for _ in range(300):
            widths = [chance.randint(1, 20) for _ in range(chance.randint(0, 12))]
            values = [chance.choice([0, 2 ** w - 1, chance.randrange(2 ** w)]) for w in widths]
            row = pack(widths, values)
            self.assertEqual(row, bytes_of(widths, values))
            self.assertEqual(len(row), field_bytes(widths))
            self.assertEqual(unpack(widths, row), values)
            self.assertEqual(unpack(widths, row + [255, 1]), values)

    def test_each_item_is_an_integer_of_its_own_kind(self):
        for one in pack([1, 8, 3], [1, 200, 2]) + unpack([1, 8, 3], [255, 255]):
            self.assertIs(type(one), int)

    def test_refused(self):
        for widths, values in (
            ([1], [2]), ([4], [16]), ([20], [2 ** 20]), ([5, 5], [31, 32]),
            ([1], [-1]), ([4, 4], [3, -1]), ([20], [-(2 ** 20)]),
            ([0], [0]), ([-1], [0]), ([4, 0], [3, 0]), ([4, -4], [3, 0]), ([0, 4], [0, 3]),
            ([1], []), ([], [0]), ([1, 1], [0]), ([1], [0, 0]),
        ):
            with self.assertRaises(NotValid, msg=(widths, values)):
                pack(widths, values)

    def test_the_greatest_value_of_each_width_is_taken_and_one_more_refused(self):
        for width in range(1, 21):
            self.assertEqual(unpack([width], pack([width], [2 ** width - 1])), [2 ** width - 1])
            with self.assertRaises(NotValid):
                pack([width], [2 ** width])

    def test_what_is_passed_stays_as_it_was(self):
        widths, values = [1, 1, 4, 2], [0, 1, 5, 2]
        row = pack(widths, values)
        unpack(widths, row)
        field_bytes(widths)
        self.assertEqual((widths, values, row), ([1, 1, 4, 2], [0, 1, 5, 2], [86]))

    def test_a_refusal_leaves_the_lists_as_they_were(self):
        widths, values, data = [4, 4], [3, 16], [1]
        with self.assertRaises(NotValid):
            pack(widths, values)
        with self.assertRaises(NotValid):
            unpack([4, 5], data)
        self.assertEqual((widths, values, data), ([4, 4], [3, 16], [1]))

    def test_a_returned_list_is_the_callers_own(self):
        row = pack([8], [7])
        row.append(1)
        self.assertEqual(pack([8], [7]), [7])
        data = [7, 8]
        unpack([8], data).append(1)
        self.assertEqual(data, [7, 8])


class FieldBytesTest(unittest.TestCase):
    def test_whole_bytes_are_counted(self):
        for widths, size in (
            ([1], 1), ([8], 1), ([9], 2), ([3, 5], 1), ([3, 6], 2), ([20], 3), ([1] * 16, 2), ([1] * 17, 3),
        ):
            self.assertEqual(field_bytes(widths), size)

    def test_refused(self):
        for widths in ([0], [-1], [8, 0], [0, 8], [9, -1]):
            with self.assertRaises(NotValid, msg=widths):
                field_bytes(widths)


class UnpackTest(unittest.TestCase):
    def test_the_examples_backwards(self):
        self.assertEqual(unpack([1, 1, 4, 2], [86]), [0, 1, 5, 2])
        self.assertEqual(unpack([5, 5], [248, 64]), [31, 1])

    def test_bits_and_bytes_behind_the_fields_are_not_looked_at(self):
        self.assertEqual(unpack([5, 5], [248, 127]), [31, 1])
        self.assertEqual(unpack([5, 5], [248, 64, 9, 255]), [31, 1])
        self.assertEqual(unpack([8], [7, 255]), [7])
        self.assertEqual(unpack([], [255]), [])

    def test_refused(self):
        for widths, data in (
            ([1], []), ([8], []), ([9], [255]), ([5, 5], [248]), ([20], [1, 2]),
            ([0], [255]), ([-1], [255]), ([4, 0], [255, 255]), ([4, -4], [255]),
        ):
            with self.assertRaises(NotValid, msg=(widths, data)):
                unpack(widths, data)


if __name__ == "__main__":
    unittest.main()
