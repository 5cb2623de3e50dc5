"""Rows of indexes, and what arguments must be: what several files of the package share."""

import itertools
import unittest

from bearerwise.checks import check_bits, is_between
from bearerwise.errors import NotValid
from bearerwise.ranges import true_rows


class TrueRowsTest(unittest.TestCase):
    def test_written_out(self):
        self.assertEqual(true_rows([]), [])
        self.assertEqual(true_rows([False, False]), [])
        self.assertEqual(true_rows([True]), [(0, 0)])
        self.assertEqual(true_rows([True, True, False, True, False, False, True, True]), [(0, 1), (3, 3), (6, 7)])

    def test_all_lists_of_up_to_8(self):
        for size in range(9):
            for flags in itertools.product((False, True), repeat=size):
                rows = true_rows(list(flags))
                inside = [at for first, last in rows for at in range(first, last + 1)]
                self.assertEqual(inside, [at for at in range(size) if flags[at]])
                for (_, last), (first, _) in zip(rows, rows[1:]):
                    self.assertGreater(first, last + 1)


class ChecksTest(unittest.TestCase):
    def test_only_integers_within_the_bounds_are_between(self):
        self.assertEqual([one for one in range(-3, 9) if is_between(one, 2, 5)], [2, 3, 4, 5])
        for wrong in (True, False, None, "1", [1], 1.0):
            self.assertIs(is_between(wrong, 0, 5), False, msg=wrong)

    def test_links_count_with_3_to_6_bits(self):
        for bits in (3, 4, 5, 6):
            self.assertIsNone(check_bits(bits))
        for bits in (2, 7, 0, -3):
            with self.assertRaises(NotValid, msg=bits):
                check_bits(bits)


if __name__ == "__main__":
    unittest.main()
