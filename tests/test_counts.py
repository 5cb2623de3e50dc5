"""Points [29] to [31]: counts and short counts."""

import random
import unittest

from bearerwise import counts
from bearerwise.counts import count_from, count_near, short_of, window

ALL_BITS = (4, 5, 6, 7)
FAR = 10 ** 12


def plain_near(expected, short, bits):
    """The count by the words of point [30], looked for among all counts within the bounds."""
    half = 2 ** (bits - 1)
    found = [
        count for count in range(expected - half, expected + half)
        if (count - short) % 2 ** bits == 0
    ]
    assert len(found) == 1
    return found[0] if found[0] >= 0 else None


class ShortTest(unittest.TestCase):
    def test_the_bounds_of_the_bits(self):
        self.assertEqual((counts.MIN_BITS, counts.MAX_BITS), (4, 7))

    def test_the_short_count_is_the_remainder(self):
        for bits in ALL_BITS:
            for count in list(range(300)) + [FAR - 1, FAR, FAR + 77]:
                self.assertEqual(short_of(count, bits), count % 2 ** bits)
        self.assertEqual([short_of(16, 4), short_of(127, 7), short_of(128, 7)], [0, 127, 0])

    def test_the_window_is_half_of_the_numbers(self):
        self.assertEqual([window(bits) for bits in ALL_BITS], [8, 16, 32, 64])


class NearTest(unittest.TestCase):
    def test_the_examples(self):
        self.assertEqual(count_near(20, 3, 4), 19)
        self.assertEqual(count_near(20, 11, 4), 27)
        self.assertIsNone(count_near(2, 15, 4))

    def test_by_the_words_of_the_document(self):
        for bits in ALL_BITS:
            for expected in list(range(2 ** bits + 3)) + [FAR - 5, FAR]:
                for short in range(2 ** bits):
                    self.assertEqual(count_near(expected, short, bits), plain_near(expected, short, bits))

    def test_a_count_is_read_rightly_just_within_the_bounds(self):
        for bits in ALL_BITS:
            half = 2 ** (bits - 1)
            for expected in (0, 1, half - 1, half, half + 1, 1000, FAR):
                least, most = expected - half, expected + half - 1
                for count in (least - 1, least, least + 1, expected, most - 1, most, most + 1):
                    read = count_near(expected, short_of(count, bits), bits)
                    if 0 <= count and least <= count <= most:
                        self.assertEqual(read, count)
                    elif read is not None:
                        self.assertNotEqual(read, count)
                        self.assertEqual(short_of(read, bits), short_of(count, bits))
                        self.assertTrue(0 <= read and least <= read <= most)

    def test_none_just_if_the_count_is_negative(self):
        for bits in ALL_BITS:
            half = 2 ** (bits - 1)
            self.assertEqual(count_near(half, short_of(0, bits), bits), 0)
            self.assertEqual(count_near(half - 1, half, bits), half)
            self.assertIsNone(count_near(0, 2 ** bits - 1, bits))
            self.assertIsNone(count_near(half - 1, 2 ** bits - 1, bits))
            self.assertEqual(count_near(half, 2 ** bits - 1, bits), 2 ** bits - 1)
            self.assertIsNone(count_near(0, half, bits))
            self.assertEqual(count_near(0, half - 1, bits), half - 1)

    def test_a_greater_short_count_counts_modulo_the_numbers(self):
        for bits in ALL_BITS:
            for expected in (0, 5, 200, FAR):
                for short in range(2 ** bits):
                    for more in (1, 2, 9, 10 ** 6):
                        greater = short + more * 2 ** bits
                        self.assertEqual(count_near(expected, greater, bits), count_near(expected, short, bits))
                        self.assertEqual(count_from(expected, greater, bits), count_from(expected, short, bits))


class FromTest(unittest.TestCase):
    def test_the_example(self):
        self.assertEqual(count_from(20, 3, 4), 35)

    def test_the_least_count_from_the_first_on(self):
        for bits in ALL_BITS:
            for first in list(range(140)) + [FAR]:
                for short in range(2 ** bits):
                    found = [count for count in range(first, first + 2 ** bits) if count % 2 ** bits == short]
                    self.assertEqual([count_from(first, short, bits)], found)


class WindowTest(unittest.TestCase):
    def test_every_packet_of_a_window_is_read_rightly(self):
        for bits in ALL_BITS:
            half = window(bits)
            for base in (0, 1, half, 5000):
                for expected in range(base, base + half + 1):
                    for count in range(base, base + half):
                        self.assertEqual(count_near(expected, short_of(count, bits), bits), count)

    def test_one_packet_more_could_be_read_wrongly(self):
        for bits in ALL_BITS:
            half = window(bits)
            for base in (0, 1, half, 5000):
                self.assertNotEqual(count_near(base, short_of(base + half, bits), bits), base + half)

    def test_counts_that_grow_are_followed(self):
        chance = random.Random(1)
        for bits in ALL_BITS:
            expected = 0
            for _ in range(2000):
                count = max(0, expected + chance.randrange(-window(bits), window(bits)))
                self.assertEqual(count_near(expected, short_of(count, bits), bits), count)
                expected = max(expected, count)


if __name__ == "__main__":
    unittest.main()
