"""Points [25] to [28]: covers."""

import itertools
import random
import unittest

from bearerwise.covers import cover, mark_of, row_of, uncover

FAR = 10 ** 9


def plain_row(key, bearer, way, count, size):
    """The row by the words of point [26]."""
    m = 2 ** 31 - 1
    states = [(key * 48271 + bearer * 69621 + way * 40692 + count * 16807 + 1) % m]
    while len(states) <= size:
        states.append((48271 * states[-1] + 11) % m)
    return [state // 257 % 256 for state in states[1:]]


def plain_mark(key, bearer, way, count):
    """The mark by the words of point [27], its fields put side by side."""
    fields = format(key % 64, "06b") + format(bearer % 4, "02b") + str(way) + format(count % 128, "07b")
    mark = int(fields, 2) ^ 23205
    return [mark >> 8, mark & 255]


def some_numbers(seed, many):
    """Tuples of four numbers, small ones and great ones."""
    chance = random.Random(seed)
    for _ in range(many):
        most = chance.choice((4, 200, FAR))
        yield chance.randrange(most), chance.randrange(most), chance.randrange(2), chance.randrange(most)


def some_packet(chance, size):
    return [chance.randrange(256) for _ in range(size)]


class RowTest(unittest.TestCase):
    def test_the_example(self):
        self.assertEqual(row_of(0, 0, 0, 0, 3), [187, 146, 137])

    def test_by_the_words_of_the_document(self):
        for numbers in some_numbers(1, 200):
            self.assertEqual(row_of(*numbers, 50), plain_row(*numbers, 50))

    def test_each_number_changes_the_row(self):
        rows = [
            row_of(*numbers, 20)
            for numbers in ((0, 0, 0, 0), (1, 0, 0, 0), (0, 1, 0, 0), (0, 0, 1, 0), (0, 0, 0, 1), (64, 0, 0, 0))
        ]
        for one, other in itertools.combinations(rows, 2):
            self.assertNotEqual(one, other)

    def test_a_size_of_0(self):
        self.assertEqual(row_of(0, 0, 0, 0, 0), [])
        self.assertEqual(row_of(FAR, FAR, 1, FAR, 0), [])

    def test_a_shorter_row_is_the_beginning_of_a_longer_one(self):
        for numbers in some_numbers(2, 20):
            longest = row_of(*numbers, 300)
            self.assertEqual(len(longest), 300)
            for size in (0, 1, 2, 3, 100, 196, 200, 299):
                self.assertEqual(row_of(*numbers, size), longest[:size])

    def test_keys_bearers_and_counts_up_to_10_to_the_9(self):
        for key, bearer, way, count in itertools.product((0, 1, FAR), (0, 3, FAR), (0, 1), (0, 1, 127, FAR)):
            row = row_of(key, bearer, way, count, 200)
            self.assertEqual(row, plain_row(key, bearer, way, count, 200))
            self.assertEqual([one for one in row if one < 0 or one > 255], [])

    def test_a_returned_row_is_new(self):
        row_of(1, 2, 0, 3, 5).append(7)
        self.assertEqual(row_of(1, 2, 0, 3, 5), plain_row(1, 2, 0, 3, 5))


class MarkTest(unittest.TestCase):
    def test_the_example(self):
        self.assertEqual(mark_of(0, 0, 0, 0), [90, 165])

    def test_by_the_words_of_the_document(self):
        for numbers in some_numbers(3, 500):
            self.assertEqual(mark_of(*numbers), plain_mark(*numbers))

    def test_the_greatest_of_each_number(self):
        # All bits of the mark are 1, so each is turned over by the xor.
        self.assertEqual(mark_of(63, 3, 1, 127), [255 - 90, 255 - 165])

    def test_the_same_mark_for_numbers_that_are_equal_modulo_64_4_and_128(self):
        self.assertEqual(mark_of(5, 1, 1, 9), mark_of(5 + 64, 1 + 8, 1, 9 + 3 * 128))

    def test_another_mark_for_each_other_number(self):
        marks = [tuple(mark_of(*numbers)) for numbers in itertools.product(range(64), range(4), range(2), range(128))]
        self.assertEqual(len(set(marks)), 64 * 4 * 2 * 128)


class CoverTest(unittest.TestCase):
    def test_the_example(self):
        self.assertEqual(cover(0, 0, 0, 0, [0, 1]), [187, 147, 90, 165, 1])

    def test_by_the_words_of_the_document(self):
        chance = random.Random(4)
        for numbers in some_numbers(4, 200):
            packet = some_packet(chance, chance.choice((0, 1, 2, 30, 196)))
            row = plain_row(*numbers, len(packet))
            covered = [one ^ other for one, other in zip(packet, row)] + plain_mark(*numbers) + [sum(packet) % 256]
            self.assertEqual(cover(*numbers, packet), covered)

    def test_a_packet_of_no_byte(self):
        self.assertEqual(cover(0, 0, 0, 0, []), [90, 165, 0])
        self.assertEqual(uncover(0, 0, 0, 0, [90, 165, 0]), [])

    def test_the_sum_is_that_of_the_packet_modulo_256(self):
        for packet, last in (([255, 1], 0), ([255, 2], 1), ([255] * 200, 255 * 200 % 256), ([0, 0], 0)):
            self.assertEqual(cover(3, 1, 0, 9, packet)[-1], last)

    def test_what_is_passed_stays_as_it_was(self):
        packet = [1, 2, 3]
        covered = cover(5, 1, 1, 9, packet)
        held = list(covered)
        uncover(5, 1, 1, 9, covered).append(7)
        uncover(6, 1, 1, 9, covered)
        self.assertEqual((packet, covered), ([1, 2, 3], held))
        covered.append(7)
        self.assertEqual(packet, [1, 2, 3])


class UncoverTest(unittest.TestCase):
    def test_it_gives_the_packet_back(self):
        chance = random.Random(5)
        for numbers in some_numbers(5, 300):
            packet = some_packet(chance, chance.choice((0, 1, 2, 3, 30, 196, 200)))
            self.assertEqual(uncover(*numbers, cover(*numbers, packet)), packet)

    def test_another_key_bearer_way_or_count_is_refused(self):
        chance = random.Random(6)
        for key, bearer, way, count in some_numbers(6, 40):
            covered = cover(key, bearer, way, count, some_packet(chance, chance.choice((0, 1, 30))))
            self.assertIsNone(uncover(key, bearer, 1 - way, count, covered))
            for other in range(1, 64):
                self.assertIsNone(uncover(key + other, bearer, way, count, covered))
                self.assertIsNone(uncover(key + other + 64 * 5, bearer, way, count, covered))
            for other in (1, 2, 3, 5, 10, 19):
                self.assertIsNone(uncover(key, bearer + other, way, count, covered))
            for other in range(1, 128):
                self.assertIsNone(uncover(key, bearer, way, count + other, covered))
                self.assertIsNone(uncover(key, bearer, way, count + other + 128 * 7, covered))

    def test_each_single_changed_byte_is_refused(self):
        chance = random.Random(7)
        for numbers in some_numbers(7, 12):
            covered = cover(*numbers, some_packet(chance, chance.choice((0, 1, 2, 9))))
            for at in range(len(covered)):
                for other in range(256):
                    changed = covered[:at] + [other] + covered[at + 1:]
                    found = uncover(*numbers, changed)
                    if other == covered[at]:
                        self.assertIsNotNone(found)
                    else:
                        self.assertIsNone(found)

    def test_a_changed_byte_of_the_greatest_packet(self):
        covered = cover(7, 2, 1, 300, [at % 256 for at in range(200)])
        for at in range(len(covered)):
            for bit in range(8):
                changed = list(covered)
                changed[at] ^= 1 << bit
                self.assertIsNone(uncover(7, 2, 1, 300, changed))

    def test_fewer_than_three_bytes_are_refused(self):
        for covered in ([], [90], [165], [90, 165], [0, 0]):
            self.assertIsNone(uncover(0, 0, 0, 0, covered))
        self.assertIsNone(uncover(0, 0, 0, 0, [90, 165, 1]))
        self.assertIsNone(uncover(0, 0, 0, 0, [165, 90, 0]))

    def test_the_mark_is_looked_for_behind_the_packet(self):
        covered = cover(0, 0, 0, 0, [1, 2, 3])
        for wrong in (covered[1:], covered[:-1], covered + [0], covered + covered[-1:], [0] + covered):
            self.assertIsNone(uncover(0, 0, 0, 0, wrong))


if __name__ == "__main__":
    unittest.main()
