"""Points [52] and [53]: the air."""

import random
import unittest

from bearerwise.air import Air


def air_of(*pieces):
    air = Air()
    for piece in pieces:
        air.send(piece)
    return air


class AirTest(unittest.TestCase):
    def test_an_empty_air(self):
        air = Air()
        self.assertEqual(air.pieces(), [])
        self.assertIsNone(air.arrive())
        self.assertIs(air.lose(), False)
        self.assertIs(air.double(), False)
        air.stop()
        self.assertEqual(air.pieces(), [])

    def test_a_sent_piece_stands_last(self):
        air = air_of([1], [2, 3])
        air.send([1])
        self.assertEqual(air.pieces(), [[1], [2, 3], [1]])

    def test_only_the_first_one_arrives_or_is_lost(self):
        air = air_of([1], [2], [3], [4])
        self.assertEqual(air.arrive(), [1])
        self.assertEqual(air.pieces(), [[2], [3], [4]])
        self.assertIs(air.lose(), True)
        self.assertEqual(air.pieces(), [[3], [4]])
        self.assertEqual([air.arrive(), air.arrive(), air.arrive()], [[3], [4], None])

    def test_a_doubled_piece_stands_directly_behind_itself(self):
        air = air_of([1], [2])
        self.assertIs(air.double(), True)
        self.assertEqual(air.pieces(), [[1], [1], [2]])
        self.assertIs(air.double(), True)
        self.assertEqual(air.pieces(), [[1], [1], [1], [2]])

    def test_a_piece_without_bytes(self):
        air = air_of([], [1])
        self.assertIs(air.double(), True)
        self.assertIs(air.lose(), True)
        self.assertEqual(air.arrive(), [])
        self.assertEqual(air.pieces(), [[1]])

    def test_a_stop_leaves_none_and_the_air_goes_on(self):
        air = air_of([1], [2])
        air.stop()
        self.assertEqual(air.pieces(), [])
        self.assertIsNone(air.arrive())
        air.send([3])
        self.assertEqual(air.arrive(), [3])

    def test_what_was_sent_or_returned_may_be_changed(self):
        piece = [1, 2]
        air = air_of(piece)
        air.send(piece)
        piece.append(9)
        air.double()
        pieces = air.pieces()
        pieces[0].append(8)
        pieces.pop()
        self.assertEqual(air.pieces(), [[1, 2]] * 3)
        kept = air.pieces()
        air.arrive().append(7)
        self.assertEqual(air.pieces(), [[1, 2]] * 2)
        self.assertEqual(kept, [[1, 2]] * 3)
        self.assertEqual(piece, [1, 2, 9])

    def test_a_doubled_piece_shares_nothing_with_the_first_one(self):
        air = air_of([1])
        air.double()
        air.arrive().append(7)
        self.assertEqual(air.pieces(), [[1]])

    def test_airs_are_apart(self):
        one, other = Air(), Air()
        one.send([1])
        self.assertEqual(other.pieces(), [])

    def test_random_acts(self):
        for seed in range(50):
            chance, air, plain = random.Random(seed), Air(), []
            for _ in range(200):
                act = chance.randrange(9)
                if act < 4:
                    piece = [chance.randrange(256) for _ in range(chance.randrange(4))]
                    air.send(piece)
                    plain = plain + [piece]
                elif act < 6:
                    self.assertEqual(air.arrive(), plain[0] if plain else None)
                    plain = plain[1:]
                elif act == 6:
                    self.assertIs(air.lose(), plain != [])
                    plain = plain[1:]
                elif act == 7:
                    self.assertIs(air.double(), plain != [])
                    plain = plain[:1] + plain
                elif chance.randrange(10) == 0:
                    air.stop()
                    plain = []
                self.assertEqual(air.pieces(), plain)


if __name__ == "__main__":
    unittest.main()
