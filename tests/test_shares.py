"""Points [37] to [40]: shares."""

import random
import unittest

from bearerwise.errors import NotValid
from bearerwise.shares import Shares, least_units, most_units


class PlainShares:
    """The shares by the words of points [37] and [38]: the whole row of units is kept."""

    def __init__(self, promises, weights, units):
        self.promises, self.weights, self.units = promises, weights, units
        self.row = []
        self.credit = {number: 0 for number in range(len(promises))}

    def this_round(self):
        return self.row[len(self.row) // self.units * self.units:]

    def give(self, waiting):
        having = {number for number, has in enumerate(waiting) if has}
        if not having:
            return None
        lacking = {number for number in having if self.this_round().count(number) < self.promises[number]}
        if lacking:
            chosen = min(lacking)
        else:
            for number in having:
                self.credit[number] += self.weights[number]
            chosen = sorted(having, key=lambda number: (-self.credit[number], number))[0]
            for number in having:
                self.credit[chosen] -= self.weights[number]
        self.row.append(chosen)
        return chosen


def state_of(shares):
    return (shares.balances(), shares.given(), shares.place())


def some_shares(chance):
    classes = chance.randrange(1, 5)
    promises = [chance.randrange(4) for _ in range(classes)]
    weights = [chance.randrange(1, 6) for _ in range(classes)]
    units = max(1, sum(promises) + chance.randrange(5))
    return promises, weights, units


class GiveTest(unittest.TestCase):
    def test_the_example(self):
        shares = Shares([2, 0], [1, 3], 4)
        self.assertEqual([shares.give([True, True]) for _ in range(4)], [0, 0, 1, 0])
        self.assertEqual(shares.balances(), [-2, 2])
        self.assertEqual([shares.give([True, True]) for _ in range(4)], [0, 0, 1, 1])
        self.assertEqual(shares.balances(), [0, 0])

    def test_what_is_told_behind_each_unit(self):
        shares = Shares([2, 0], [1, 3], 4)
        self.assertEqual(state_of(shares), ([0, 0], [0, 0], 0))
        told = []
        for _ in range(5):
            shares.give([True, True])
            told.append(state_of(shares))
        self.assertEqual(told, [
            ([0, 0], [1, 0], 1), ([0, 0], [2, 0], 2), ([1, -1], [2, 1], 3), ([-2, 2], [0, 0], 0), ([-2, 2], [1, 0], 1),
        ])

    def test_promises_go_first_and_the_least_class_of_them(self):
        shares = Shares([1, 0, 2, 1], [1, 9, 1, 1], 9)
        self.assertEqual([shares.give([True] * 4) for _ in range(4)], [0, 2, 2, 3])
        self.assertEqual(shares.balances(), [0, 0, 0, 0])
        self.assertEqual(shares.give([True] * 4), 1)

    def test_a_promise_waits_for_its_class(self):
        shares = Shares([1, 1], [1, 1], 3)
        self.assertEqual(shares.give([False, True]), 1)
        self.assertEqual(shares.give([False, True]), 1)
        # The class 0 still lacks its unit of this round.
        self.assertEqual(shares.give([True, True]), 0)
        self.assertEqual(state_of(shares), ([0, 0], [0, 0], 0))

    def test_a_unit_of_a_promise_changes_no_credit(self):
        shares = Shares([3, 3], [5, 7], 6)
        for _ in range(24):
            shares.give([True, True])
            self.assertEqual(shares.balances(), [0, 0])

    def test_free_units_by_credit(self):
        shares = Shares([0, 0, 0], [1, 2, 1], 100)
        self.assertEqual([shares.give([True] * 3) for _ in range(8)], [1, 0, 2, 1] * 2)
        self.assertEqual(shares.balances(), [0, 0, 0])

    def test_the_least_of_several_with_the_greatest_credit(self):
        shares = Shares([0, 0, 0], [2, 2, 2], 3)
        self.assertEqual([shares.give([True] * 3) for _ in range(6)], [0, 1, 2, 0, 1, 2])
        self.assertEqual([shares.give([False, True, True]) for _ in range(2)], [1, 2])

    def test_a_class_without_anything_gets_neither_unit_nor_credit(self):
        shares = Shares([0, 0, 0], [1, 5, 1], 10)
        self.assertEqual(shares.give([True, False, True]), 0)
        self.assertEqual(shares.balances(), [-1, 0, 1])
        self.assertEqual(shares.give([False, True, False]), 1)
        self.assertEqual(shares.balances(), [-1, 0, 1])
        # The class 2 has a credit from before, but nothing to send.
        self.assertEqual(shares.give([True, False, False]), 0)
        self.assertEqual(shares.balances(), [-1, 0, 1])

    def test_nothing_happens_if_no_class_has_anything(self):
        shares = Shares([1, 0], [1, 3], 3)
        shares.give([True, True])
        before = state_of(shares)
        for _ in range(5):
            self.assertIsNone(shares.give([False, False]))
            self.assertEqual(state_of(shares), before)

    def test_credits_go_on_from_round_to_round(self):
        shares = Shares([0, 0], [1, 3], 2)
        self.assertEqual([shares.give([True, True]) for _ in range(2)], [1, 0])
        self.assertEqual(state_of(shares), ([-2, 2], [0, 0], 0))
        self.assertEqual([shares.give([True, True]) for _ in range(2)], [1, 1])

    def test_a_round_of_one_unit(self):
        shares = Shares([1, 0], [1, 1], 1)
        self.assertEqual([shares.give([True, True]) for _ in range(4)], [0, 0, 0, 0])
        self.assertEqual([shares.give([False, True]) for _ in range(2)], [1, 1])
        self.assertEqual(state_of(shares), ([0, 0], [0, 0], 0))

    def test_by_the_words_of_the_document(self):
        for seed in range(150):
            chance = random.Random(seed)
            promises, weights, units = some_shares(chance)
            shares, plain = Shares(promises, weights, units), PlainShares(promises, weights, units)
            often = chance.choice((2, 5, 10))
            for _ in range(120):
                waiting = [chance.randrange(10) < often for _ in promises]
                self.assertEqual(shares.give(waiting), plain.give(waiting))
                self.assertEqual(shares.balances(), list(plain.credit.values()))
                self.assertEqual(shares.given(), [plain.this_round().count(at) for at in range(len(promises))])
                self.assertEqual(shares.place(), len(plain.row) % units)
                self.assertEqual(sum(shares.balances()), 0)


class RefusalTest(unittest.TestCase):
    def test_each_reason(self):
        for promises, weights, units in (
            ([], [], 1), ([1], [], 3), ([], [1], 3), ([1, 1], [1], 3), ([1], [1, 1], 3), ([-1], [1], 3),
            ([2, -1], [1, 1], 3), ([1], [0], 3), ([1, 1], [1, -2], 3), ([4], [1], 3), ([2, 2], [1, 1], 3),
            ([0], [1], 0), ([0], [1], -1),
        ):
            with self.assertRaises(NotValid, msg=(promises, weights, units)):
                Shares(promises, weights, units)

    def test_the_bounds_themselves_are_valid(self):
        self.assertEqual(Shares([0], [1], 1).give([True]), 0)
        self.assertEqual(Shares([3], [1], 3).give([True]), 0)
        self.assertEqual(Shares([2, 1], [1, 1], 3).give([False, True]), 1)

    def test_a_list_of_another_length_changes_nothing(self):
        shares = Shares([1, 0], [1, 3], 3)
        shares.give([True, True])
        shares.give([True, True])
        before = state_of(shares)
        for waiting in ([], [True], [True] * 3, [False], [False] * 3):
            with self.assertRaises(NotValid):
                shares.give(waiting)
            self.assertEqual(state_of(shares), before)
        self.assertEqual([shares.give([True, True]) for _ in range(2)], [0, 0])


class ListsTest(unittest.TestCase):
    def test_passed_lists_stay_as_they_are_and_may_be_changed(self):
        promises, weights, waiting = [1, 0], [1, 3], [True, True]
        shares = Shares(promises, weights, 3)
        self.assertEqual([shares.give(waiting) for _ in range(2)], [0, 1])
        self.assertEqual((promises, weights, waiting), ([1, 0], [1, 3], [True, True]))
        promises[1] = 2
        weights[0] = 50
        weights.append(1)
        other = Shares([1, 0], [1, 3], 3)
        other.give(waiting)
        other.give(waiting)
        for _ in range(10):
            self.assertEqual(shares.give(waiting), other.give(waiting))

    def test_returned_lists_are_the_callers_own(self):
        shares = Shares([1, 0], [1, 3], 3)
        shares.give([True, True])
        shares.give([True, True])
        balances, given = shares.balances(), shares.given()
        before = state_of(shares)
        shares.balances()[0] = 99
        shares.given().append(7)
        self.assertEqual(state_of(shares), before)
        shares.give([True, True])
        self.assertEqual((balances, given), ([1, -1], [1, 1]))


class BoundsTest(unittest.TestCase):
    def test_their_numbers(self):
        self.assertEqual([least_units(3, 5, n) for n in (0, 3, 4, 5, 8, 9, 13, 14)], [0, 0, 0, 0, 0, 3, 3, 6])
        self.assertEqual([most_units(3, 2, 5, n) for n in (1, 2, 3, 6, 7, 8, 12)], [5, 10, 10, 10, 15, 15, 20])
        self.assertEqual(least_units(3, 50, 0), 0)
        self.assertEqual(least_units(0, 5, 100), 0)
        self.assertEqual([least_units(1, 1, n) for n in (0, 1, 2)], [0, 1, 2])
        self.assertEqual([most_units(1, 0, 1, n) for n in (1, 2)], [1, 2])

    def test_the_least_of_a_class_that_always_waits(self):
        for seed in range(60):
            chance = random.Random(seed)
            promises, weights, units = some_shares(chance)
            always = chance.randrange(len(promises))
            shares = Shares(promises, weights, units)
            row = [
                shares.give([number == always or chance.randrange(3) > 0 for number in range(len(promises))])
                for _ in range(4 * units + 7)
            ]
            for start in range(len(row)):
                for stop in range(start, len(row) + 1):
                    had = row[start:stop].count(always)
                    self.assertGreaterEqual(had, least_units(promises[always], units, stop - start))

    def test_the_most_if_all_always_wait(self):
        for seed in range(60):
            promises, weights, units = some_shares(random.Random(seed))
            free = units - sum(promises)
            shares = Shares(promises, weights, units)
            row = [shares.give([True] * len(promises)) for _ in range(4 * units + 7)]
            for start in range(len(row)):
                for stop in range(start + 1, len(row) + 1):
                    for number, promise in enumerate(promises):
                        had = row[start:stop].count(number)
                        self.assertLessEqual(had, most_units(promise, free, units, stop - start))
                        self.assertGreaterEqual(had, least_units(promise, units, stop - start))


if __name__ == "__main__":
    unittest.main()
