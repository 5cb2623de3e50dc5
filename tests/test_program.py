"""Points [1], [2] and [51] over the whole program: worlds that are disturbed, settled and judged."""

import copy
import random
import unittest

from bearerwise.judge import bill_fault, first_fault
from bearerwise.world import World
from helpers import some_act

DOWN, UP = 0, 1


class Keeper:
    """The last thing that was returned by each question, and a copy of it as it was then."""

    def __init__(self):
        self.kept = []

    def keep(self, value):
        self.kept.append((value, copy.deepcopy(value)))

    def changed(self):
        return [value for value, held in self.kept if value != held]


class ProgramTest(unittest.TestCase):
    def begin(self, seed):
        self.chance = random.Random(seed)
        self.bearers, self.count_bits = self.chance.randrange(1, 5), self.chance.randrange(4, 8)
        self.world = World(self.bearers, self.chance.randrange(3, 7), self.count_bits)
        self.keys = [(way, bearer) for way in (DOWN, UP) for bearer in range(self.bearers)]

    def check(self, bound, quiet):
        for way, bearer in self.keys:
            went_in, came_out = self.world.went_in(way, bearer), self.world.came_out(way, bearer)
            self.assertEqual(first_fault(went_in, came_out, bound, quiet), "")
            metered, billed = self.world.metered(way, bearer), self.world.bill(way, bearer)
            packets = went_in if way == DOWN else came_out
            self.assertEqual(bill_fault(packets, metered, billed, False), "")

    def settle_all(self):
        """Let everything come out, and settle the books."""
        self.assertIs(self.world.settle(5000), True)
        self.check(0, True)
        self.assertEqual(self.world.play([("write",)]), [True])
        # Among so many indexes is an even one of the last letter, or an elder one behind it.
        self.world.play([("bill", index) for index in range(500)])
        for way, bearer in self.keys:
            metered, billed = self.world.metered(way, bearer), self.world.bill(way, bearer)
            packets = self.world.came_out(way, bearer)
            self.assertEqual(bill_fault(packets, metered, billed, True), "")
            self.assertEqual(packets, self.world.went_in(way, bearer))

    def test_disturbed_worlds(self):
        for seed in range(60):
            self.begin(seed)
            for _ in range(3):
                for _ in range(200):
                    self.world.play([some_act(self.chance, self.bearers, self.world.stay())])
                    self.check(10 ** 9, False)
                if self.chance.randrange(2):
                    self.settle_all()
            self.settle_all()

    def test_no_packet_is_held_but_those_of_a_window_downward(self):
        for seed in range(40):
            self.begin(seed)
            for _ in range(400):
                self.world.play([some_act(self.chance, self.bearers, self.world.stay())])
                for bearer in range(self.bearers):
                    went_in, came_out = self.world.went_in(DOWN, bearer), self.world.came_out(DOWN, bearer)
                    self.assertEqual(first_fault(went_in, came_out, 2 ** (self.count_bits - 1), False), "")

    def test_many_stays(self):
        for seed in range(12):
            self.begin(seed)
            for _ in range(150):
                acts = [some_act(self.chance, self.bearers, self.world.stay()) for _ in range(8)]
                self.world.play(acts + [("stay",)])
                self.check(10 ** 9, False)
            self.assertGreaterEqual(self.world.stay(), 150)
            self.settle_all()

    def test_an_air_that_loses_everything_for_a_while(self):
        for seed in range(12):
            self.begin(seed)
            for _ in range(60):
                self.world.play([some_act(self.chance, self.bearers, self.world.stay()) for _ in range(5)])
                self.world.play([("lose", way) for way in (DOWN, UP) for _ in range(30)])
            self.settle_all()

    def test_letters_that_wait_for_many_stays(self):
        for seed in range(12):
            self.begin(seed)
            for _ in range(400):
                act = some_act(self.chance, self.bearers, self.world.stay())
                if act[0] != "letter" or act[2] == DOWN:
                    self.world.play([act])
            self.assertEqual([self.world.came_out(UP, bearer) for bearer in range(self.bearers)], [[]] * self.bearers)
            self.settle_all()

    def test_the_same_acts_make_the_same_world(self):
        acts, worlds = [], []
        chance = random.Random(5)
        for _ in range(500):
            acts.append(some_act(chance, 3, 0))
        for _ in range(2):
            world = World(3, 4, 5)
            told = [world.play(acts), world.settle(100)]
            for way in (DOWN, UP):
                for bearer in range(3):
                    told += [world.came_out(way, bearer), world.bill(way, bearer)]
            worlds.append(told)
        self.assertEqual(worlds[0], worlds[1])

    def test_nothing_passed_or_returned_is_changed(self):
        for seed in range(20):
            self.begin(seed)
            keeper = Keeper()
            for _ in range(150):
                acts = [some_act(self.chance, self.bearers, self.world.stay())]
                keeper.keep(acts)
                keeper.keep(self.world.play(acts))
                way, bearer = self.chance.choice(self.keys)
                keeper.keep(self.world.went_in(way, bearer))
                keeper.keep(self.world.came_out(way, bearer))
            self.world.settle(1000)
            self.assertEqual(keeper.changed(), [])

    def test_true_and_false_are_no_numbers(self):
        for seed in range(10):
            self.begin(seed)
            for _ in range(200):
                told = self.world.play([some_act(self.chance, self.bearers, self.world.stay())])
                self.assertIs(type(told[0]), bool)
            for way, bearer in self.keys:
                for number in (self.world.stay(), self.world.metered(way, bearer), self.world.bill(way, bearer)):
                    self.assertIs(type(number), int)


if __name__ == "__main__":
    unittest.main()
