"""Points [41] to [44]: meter and biller."""

import random
import unittest

from bearerwise.bills import Biller, Meter


def state_of(meter):
    metered = [meter.metered(bearer, way) for bearer in range(4) for way in (0, 1)]
    return (metered, meter.last(), meter.is_settled())


class MeterTest(unittest.TestCase):
    def test_the_example(self):
        meter, biller = Meter(), Biller()
        meter.add(2, 0, 30)
        letter = meter.write()
        self.assertEqual(letter, (1, ((2, 0, 30),)))
        answer = biller.take(letter)
        self.assertEqual(answer, 1)
        meter.take(answer)
        self.assertIs(meter.is_settled(), True)
        self.assertEqual(biller.take(letter), 1)
        self.assertEqual(biller.bill(2, 0), 30)

    def test_bytes_are_summed_by_bearer_and_way(self):
        meter = Meter()
        self.assertEqual(meter.metered(0, 0), 0)
        for bearer, way, size in ((0, 0, 5), (0, 1, 7), (1, 0, 196), (0, 0, 1), (3, 1, 2)):
            meter.add(bearer, way, size)
        self.assertEqual([meter.metered(bearer, 0) for bearer in range(4)], [6, 196, 0, 0])
        self.assertEqual([meter.metered(bearer, 1) for bearer in range(4)], [7, 0, 0, 2])

    def test_serials_are_1_2_3(self):
        meter = Meter()
        self.assertIsNone(meter.last())
        for serial in range(1, 6):
            letter = meter.write()
            self.assertEqual(letter, (serial, ()))
            self.assertEqual(meter.last(), letter)

    def test_the_sums_are_tuples_in_ascending_order_with_all_bytes_so_far(self):
        meter = Meter()
        for bearer, way, size in ((3, 0, 5), (0, 1, 7), (1, 1, 1), (1, 0, 2), (0, 1, 3)):
            meter.add(bearer, way, size)
        first = meter.write()
        self.assertEqual(first, (1, ((0, 1, 10), (1, 0, 2), (1, 1, 1), (3, 0, 5))))
        meter.add(1, 0, 4)
        meter.add(0, 0, 9)
        self.assertEqual(meter.write(), (2, ((0, 0, 9), (0, 1, 10), (1, 0, 6), (1, 1, 1), (3, 0, 5))))
        self.assertEqual(first, (1, ((0, 1, 10), (1, 0, 2), (1, 1, 1), (3, 0, 5))))
        for kind in (first, first[1], first[1][0]):
            self.assertIsInstance(kind, tuple)

    def test_no_bytes_stand_in_no_letter(self):
        meter = Meter()
        meter.add(0, 0, 0)
        self.assertEqual(meter.write(), (1, ()))

    def test_asking_changes_nothing(self):
        meter = Meter()
        meter.metered(5, 1)
        self.assertEqual(meter.write(), (1, ()))


class SettledTest(unittest.TestCase):
    def test_true_at_first_and_false_once_something_is_metered(self):
        meter = Meter()
        self.assertIs(meter.is_settled(), True)
        meter.add(0, 1, 1)
        self.assertIs(meter.is_settled(), False)

    def test_true_again_with_the_answer_to_the_last_letter(self):
        meter = Meter()
        meter.add(0, 1, 1)
        meter.write()
        self.assertIs(meter.is_settled(), False)
        meter.take(1)
        self.assertIs(meter.is_settled(), True)

    def test_the_answer_to_an_elder_letter_does_not_do(self):
        meter = Meter()
        meter.add(0, 1, 1)
        meter.write()
        meter.write()
        meter.take(1)
        self.assertIs(meter.is_settled(), False)
        meter.take(2)
        self.assertIs(meter.is_settled(), True)

    def test_what_is_metered_since_the_last_letter_opens_the_books(self):
        meter = Meter()
        meter.add(0, 1, 1)
        meter.write()
        meter.add(0, 1, 1)
        meter.take(1)
        self.assertIs(meter.is_settled(), False)
        meter.write()
        meter.take(1)
        self.assertIs(meter.is_settled(), False)
        meter.take(2)
        self.assertIs(meter.is_settled(), True)
        meter.add(2, 0, 1)
        self.assertIs(meter.is_settled(), False)

    def test_a_letter_without_an_answer_opens_the_books(self):
        meter = Meter()
        meter.write()
        self.assertIs(meter.is_settled(), False)
        meter.take(1)
        self.assertIs(meter.is_settled(), True)
        meter.write()
        self.assertIs(meter.is_settled(), False)

    def test_a_lesser_answer_changes_nothing(self):
        meter = Meter()
        meter.add(0, 0, 4)
        for _ in range(3):
            meter.write()
        meter.take(3)
        before = state_of(meter)
        for serial in (0, 1, 2, 3):
            meter.take(serial)
            self.assertEqual(state_of(meter), before)
        self.assertIs(meter.is_settled(), True)


class BillerTest(unittest.TestCase):
    def test_a_bill_is_0_without_a_letter(self):
        biller = Biller()
        self.assertEqual([biller.bill(bearer, way) for bearer in range(4) for way in (0, 1)], [0] * 8)
        biller.take((1, ((1, 0, 5),)))
        self.assertEqual([biller.bill(bearer, 0) for bearer in range(4)], [0, 5, 0, 0])
        self.assertEqual(biller.bill(1, 1), 0)

    def test_letters_doubled_and_late(self):
        biller = Biller()
        letters = [(serial, ((0, 0, 10 * serial), (1, 1, serial))) for serial in range(1, 5)]
        self.assertEqual(biller.take(letters[1]), 2)
        self.assertEqual(biller.take(letters[0]), 2)
        self.assertEqual((biller.bill(0, 0), biller.bill(1, 1)), (20, 2))
        self.assertEqual(biller.take(letters[3]), 4)
        for letter in letters[:3] + letters:
            self.assertEqual(biller.take(letter), 4)
            self.assertEqual((biller.bill(0, 0), biller.bill(1, 1)), (40, 4))

    def test_meter_and_biller_over_a_way_that_loses_doubles_and_delays(self):
        for seed in range(100):
            chance = random.Random(seed)
            meter, biller = Meter(), Biller()
            metered, billed, letters, answers = {}, {}, [], []
            newest = 0
            for _ in range(80):
                act = chance.randrange(5)
                if act == 0:
                    key, size = (chance.randrange(3), chance.randrange(2)), chance.randrange(1, 197)
                    meter.add(key[0], key[1], size)
                    metered[key] = metered.get(key, 0) + size
                elif act == 1:
                    letters.append(meter.write())
                    self.assertEqual(letters[-1][0], len(letters))
                elif act == 2 and letters:
                    letter = chance.choice(letters)
                    newest = max(newest, letter[0])
                    answers.append(biller.take(letter))
                    self.assertEqual(answers[-1], newest)
                elif act == 3 and answers:
                    meter.take(chance.choice(answers))
                for key in ((bearer, way) for bearer in range(3) for way in (0, 1)):
                    bill = biller.bill(*key)
                    self.assertEqual(meter.metered(*key), metered.get(key, 0))
                    self.assertGreaterEqual(bill, billed.get(key, 0))
                    self.assertLessEqual(bill, metered.get(key, 0))
                    if meter.is_settled():
                        self.assertEqual(bill, metered.get(key, 0))
                    billed[key] = bill
            # Until the books are settled the last letter can be sent again.
            meter.write()
            meter.take(biller.take(meter.last()))
            self.assertIs(meter.is_settled(), True)
            for key, size in metered.items():
                self.assertEqual(biller.bill(*key), size)


if __name__ == "__main__":
    unittest.main()
