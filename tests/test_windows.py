"""Points [8] to [11]: numbers in few bits and the windows that are safe."""

import random
import unittest

from bearerwise.windows import (
    distance, fooling, play_numbers, read_short, short, window_size,
)

ALL_BITS = (3, 4, 5, 6)
GREAT = 10 ** 24


def sends(first, stop):
    return [("send", number) for number in range(first, stop)]


def comes(many):
    return [("come",)] * many


# Eight numbers are sent and come, in a window that is too great: all short numbers
# of 3 bits are read as something, the low end of the receiver is 8.
EIGHT = sends(0, 8) + comes(8)


class ReadingTest(unittest.TestCase):
    def test_the_examples(self):
        self.assertEqual(read_short(1, 6, 4, 3), 9)
        self.assertEqual(read_short(3, 6, 4, 3), 3)

    def test_window_size(self):
        self.assertEqual([window_size(bits) for bits in ALL_BITS], [4, 8, 16, 32])

    def test_short(self):
        for number, bits, want in (
            (0, 3, 0), (7, 3, 7), (8, 3, 0), (21, 4, 5), (63, 6, 63), (64, 6, 0), (31, 5, 31), (33, 5, 1),
            (GREAT, 6, 0), (GREAT + 77, 6, 13), (GREAT - 1, 3, 7),
        ):
            self.assertEqual(short(number, bits), want, msg=(number, bits))

    def test_distance(self):
        for base, value, bits, want in (
            (0, 0, 3, 0), (0, 7, 3, 7), (7, 0, 3, 1), (5, 0, 3, 3), (5, 5, 3, 0), (5, 4, 3, 7),
            (8, 0, 3, 0), (9, 0, 3, 7), (20, 3, 4, 15), (20, 4, 4, 0), (GREAT + 1, 0, 6, 63), (GREAT, 1, 6, 1),
        ):
            self.assertEqual(distance(base, value, bits), want, msg=(base, value, bits))

    def test_distance_lies_from_0_to_below_2_to_the_bits_and_leads_to_the_short_number(self):
        for bits in ALL_BITS:
            for base in list(range(0, 70)) + [GREAT - 1, GREAT, GREAT + 5]:
                for value in range(2 ** bits):
                    far = distance(base, value, bits)
                    self.assertTrue(0 <= far < 2 ** bits)
                    self.assertEqual(short(base + far, bits), value)

    def test_read_short_at_the_edges_of_its_bounds(self):
        for bits in ALL_BITS:
            for base in (0, 1, 5, 63, 64, 100, GREAT - 1, GREAT, GREAT + 3):
                for behind in (0, 1, 2 ** (bits - 1), 2 ** bits - 1, 2 ** bits, 100):
                    least = base - behind
                    most = least + 2 ** bits - 1
                    for number in (least, least + 1, base, most - 1, most):
                        if least <= number <= most:
                            self.assertEqual(read_short(number % 2 ** bits, base, behind, bits), number)
                    self.assertEqual(read_short((least - 1) % 2 ** bits, base, behind, bits), most)
                    self.assertEqual(read_short((most + 1) % 2 ** bits, base, behind, bits), least)

    def test_read_short_is_the_only_number_within_the_bounds(self):
        for bits in (3, 4):
            for base in range(0, 20):
                for behind in range(0, 2 ** bits + 1):
                    for value in range(2 ** bits):
                        fit = [
                            number for number in range(base - behind, base - behind + 2 ** bits)
                            if number % 2 ** bits == value
                        ]
                        self.assertEqual([read_short(value, base, behind, bits)], fit)

    def test_negative_readings(self):
        self.assertEqual(read_short(7, 0, 4, 3), -1)
        self.assertEqual(read_short(4, 0, 4, 3), -4)
        self.assertEqual(read_short(3, 0, 4, 3), 3)
        self.assertEqual(read_short(15, 2, 8, 4), -1)
        self.assertEqual(read_short(0, 0, 32, 6), 0)


class FoolingTest(unittest.TestCase):
    def test_the_examples(self):
        self.assertEqual(play_numbers(3, 5, fooling(3)), ([(0, 8)], []))
        self.assertEqual(play_numbers(3, 4, fooling(3)), ([], []))

    def test_the_acts(self):
        self.assertEqual(fooling(3), sends(0, 5) + comes(5) + [("send", 0), ("come",)])
        for bits in ALL_BITS:
            window = 2 ** (bits - 1) + 1
            self.assertEqual(fooling(bits), sends(0, window) + comes(window) + [("send", 0), ("come",)])

    def test_the_window_that_is_one_greater_is_fooled_and_the_greatest_safe_one_is_not(self):
        for bits in ALL_BITS:
            safe = 2 ** (bits - 1)
            self.assertEqual(play_numbers(bits, safe + 1, fooling(bits)), ([(0, 2 ** bits)], []))
            self.assertEqual(play_numbers(bits, safe, fooling(bits)), ([], []))

    def test_a_returned_list_is_the_callers_own(self):
        fooling(3).append(("come",))
        self.assertEqual(len(fooling(3)), 12)
        play_numbers(3, 5, fooling(3))[0].append((1, 1))
        self.assertEqual(play_numbers(3, 5, fooling(3)), ([(0, 8)], []))


class ActsTest(unittest.TestCase):
    def check(self, window, acts, numbers, lows):
        """Plays with 3 bits; the acts that are passed stay as they were."""
        before = list(acts)
        self.assertEqual(play_numbers(3, window, acts), (numbers, lows))
        self.assertEqual(acts, before)

    def test_no_act(self):
        self.check(4, [], [], [])

    def test_an_act_for_which_nothing_is_there_changes_nothing(self):
        for word in ("come", "lose", "double", "hear", "miss"):
            self.check(5, [(word,)] * 3, [], [])
            self.check(5, [(word,)] * 3 + fooling(3), [(0, 8)], [])
            self.check(8, [(word,)] * 3 + EIGHT + [("tell",), ("hear",)], [], [(8, 0)])

    def test_an_act_does_not_touch_the_other_way(self):
        self.check(8, EIGHT + [("send", 0), ("hear",), ("miss",)] + comes(2), [(0, 8)], [])
        self.check(8, EIGHT + [("tell",), ("come",), ("lose",), ("double",), ("hear",)], [], [(8, 0)])

    def test_next_goes_on_by_one(self):
        # Were 2 sent behind 0, it would take the place of another number in the air.
        self.check(5, [("send", 0), ("send", 2), ("lose",)] + fooling(3), [(0, 8)], [])
        # Nor is next moved by a number that is sent again.
        self.check(5, [("send", 0), ("send", 0), ("send", 2), ("lose",), ("lose",)] + fooling(3), [(0, 8)], [])

    def test_a_number_outside_of_the_window_is_not_sent(self):
        # Below the base, above the next number, and from base + window on.
        self.check(5, [("send", -1), ("send", 1), ("send", 5)] + fooling(3), [(0, 8)], [])
        heard = sends(0, 5) + comes(5) + [("tell",), ("hear",)]
        self.check(5, heard + [("send", 0), ("come",), ("send", 4), ("come",)], [], [])
        self.check(5, heard + sends(5, 11) + comes(6) + [("send", 7), ("come",)], [], [])
        self.check(5, sends(0, 5) + [("send", 5)] + comes(6) + [("send", 2), ("come",)], [], [])

    def test_a_number_is_sent_again_as_often_as_wanted(self):
        self.check(5, fooling(3) + [("send", 0), ("come",)] * 2, [(0, 8)] * 3, [])

    def test_numbers_come_in_the_order_in_which_they_were_sent(self):
        self.check(5, sends(0, 5) + comes(5) + [("send", 1), ("send", 0)] + comes(2), [(1, 9), (0, 8)], [])

    def test_a_number_is_read_within_the_window_only(self):
        # The low end is 5: the short number 1 lies 4 above it, 2 lies 5 above it.
        self.check(5, sends(0, 5) + comes(5) + [("send", 1), ("come",)], [(1, 9)], [])
        self.check(5, sends(0, 5) + comes(5) + [("send", 2), ("come",)], [], [])
        self.check(6, sends(0, 5) + comes(5) + [("send", 2), ("come",)], [(2, 10)], [])

    def test_the_low_end_goes_on_over_all_that_has_come(self):
        lost = sends(0, 5) + [("lose",)] + comes(4)
        self.check(5, lost + [("send", 0), ("come",), ("send", 0), ("come",)], [(0, 8)], [])
        self.check(5, lost + [("send", 1), ("come",)], [], [])
        # While 0 is missing, the low end stays: the short number 0 is read as 0.
        self.check(5, lost + [("send", 0), ("come",)], [], [])
        # It stands still at a gap behind it: 1 is missing, 2 to 4 have come.
        gap = sends(0, 2) + [("come",), ("lose",)] + sends(2, 5) + comes(3)
        self.check(5, gap + [("send", 1), ("come",), ("send", 1), ("come",)], [(1, 9)], [])

    def test_a_number_that_was_passed_over_has_not_come(self):
        # The short number 2 lies 5 above the low end 5; were it taken as 10, the
        # low end would be 11 after 5 to 9, and 3 would be read as 11.
        acts = sends(0, 5) + comes(5) + [("send", 2), ("come",), ("tell",), ("hear",)]
        acts = acts + sends(5, 10) + comes(5) + [("send", 6), ("come",)]
        self.check(5, acts, [(6, 14)], [])
        self.check(5, acts + [("send", 7), ("come",)], [(6, 14)], [])

    def test_a_number_that_came_ahead_is_accepted_again(self):
        # 9 is missing at the low end 8, 8 stands for the short number 0.
        acts = EIGHT + [("send", 1), ("come",), ("send", 1), ("come",)]
        self.check(8, acts, [(1, 9), (1, 9)], [])
        self.check(8, acts + [("send", 0), ("come",), ("send", 2), ("come",)], [(1, 9), (1, 9), (0, 8), (2, 10)], [])

    def test_lose_takes_out_the_first_number(self):
        self.check(5, sends(0, 5) + comes(5) + [("send", 0), ("send", 1), ("lose",), ("come",)], [(1, 9)], [])
        self.check(5, sends(0, 5) + comes(5) + [("send", 0), ("lose",), ("come",)], [], [])

    def test_double_puts_the_first_number_directly_behind_itself(self):
        acts = EIGHT + [("send", 0), ("send", 1), ("double",)]
        self.check(8, acts + comes(3), [(0, 8), (0, 16), (1, 9)], [])
        self.check(8, acts + comes(5), [(0, 8), (0, 16), (1, 9)], [])

    def test_tell_and_hear_move_the_base(self):
        acts = sends(0, 3) + comes(3) + [("tell",), ("hear",)]
        # The base is 3: the numbers 3 to 7 may be sent, 8 and 2 may not.
        acts = acts + [("send", 2)] + sends(3, 9) + comes(9)
        self.check(5, acts + [("send", 3), ("come",)], [(3, 11)], [])
        self.check(5, acts + [("send", 4), ("come",)], [(4, 12)], [])
        self.check(5, acts + [("send", 5), ("come",)], [], [])

    def test_what_is_told_is_the_low_end_of_that_time(self):
        # 5 is told before 5 to 9 can be sent; heard later, it is the base 5.
        acts = sends(0, 5) + comes(4) + [("tell",), ("come",), ("hear",)] + [("send", 3), ("come",)]
        self.check(5, acts, [], [])
        self.check(5, acts + sends(5, 9) + comes(4) + [("send", 4), ("come",)], [(4, 12)], [])

    def test_a_low_end_that_is_read_wrongly(self):
        self.check(8, EIGHT + [("tell",), ("hear",)], [], [(8, 0)])
        self.check(8, EIGHT + [("tell",), ("tell",), ("hear",)], [], [(8, 0)])
        self.check(8, EIGHT + [("tell",), ("tell",), ("hear",), ("hear",)], [], [(8, 0), (8, 0)])
        self.check(8, EIGHT + [("tell",), ("tell",), ("hear",), ("hear",), ("send", 0)] + comes(1), [(0, 8)], [(8, 0)] * 2)

    def test_a_low_end_that_is_read_above_the_next_number_is_passed_over(self):
        # The receiver is fooled into 8 and 9, so its low end is 10 where next is 8.
        acts = fooling(3) + [("send", 1), ("come",), ("tell",), ("hear",)]
        acts = acts + sends(5, 8) + comes(3) + [("tell",), ("hear",)]
        self.check(5, acts, [(0, 8), (1, 9)], [])
        # The base is still 5.
        self.check(5, acts + [("send", 5), ("come",)], [(0, 8), (1, 9), (5, 13)], [])
        # With 8 and 9 sent too, the reading 10 is next, and the base.
        acts = acts + sends(8, 10) + [("tell",), ("hear",), ("send", 5)] + comes(3)
        self.check(5, acts, [(0, 8), (1, 9)], [])

    def test_hear_and_miss_take_out_the_first(self):
        acts = [("tell",)] + EIGHT + [("tell",)]
        self.check(8, acts + [("hear",)], [], [])
        self.check(8, acts + [("hear",), ("hear",)], [], [(8, 0)])
        self.check(8, acts + [("miss",), ("hear",)], [], [(8, 0)])
        self.check(8, acts + [("hear",), ("miss",), ("hear",)], [], [])
        self.check(8, acts + [("miss",), ("miss",), ("hear",)], [], [])

    def test_both_lists_stand_in_the_order_of_the_acts(self):
        acts = EIGHT + [("send", 1), ("come",), ("tell",), ("hear",), ("send", 0), ("come",)]
        acts = acts + [("tell",), ("hear",), ("send", 2), ("send", 7)] + comes(2)
        # Low end 8, then 10 (the short number 2, read as 2), then 11.
        self.check(8, acts, [(1, 9), (0, 8), (2, 10), (7, 15)], [(8, 0), (10, 2)])


def some_acts(chance, window, many):
    """Acts of all words; the numbers lie about the window as it could be at that time."""
    acts, top = [], 0
    for _ in range(many):
        word = chance.choice(["send"] * 6 + ["come"] * 5 + ["lose", "double", "tell", "tell", "hear", "hear", "miss"])
        if word == "send":
            number = chance.choice([top, top, top - chance.randint(0, window + 1), top + 1])
            if number == top:
                top += chance.choice([0, 1])
            acts.append(("send", number))
        else:
            acts.append((word,))
    return acts


class SafeWindowTest(unittest.TestCase):
    def test_no_number_is_read_wrongly_in_a_window_that_is_safe(self):
        chance = random.Random(11)
        for bits in ALL_BITS:
            safe = 2 ** (bits - 1)
            for window in sorted({1, 2, safe // 2, safe - 1, safe}):
                for _ in range(40):
                    acts = some_acts(chance, window, 300)
                    self.assertEqual(play_numbers(bits, window, acts), ([], []), msg=(bits, window))

    def test_the_window_that_is_one_greater_is_fooled_in_such_plays_too(self):
        chance = random.Random(12)
        plays = [play_numbers(3, 5, some_acts(chance, 5, 300)) for _ in range(40)]
        self.assertTrue([numbers for numbers, _ in plays if numbers])

    def test_all_short_plays_of_a_safe_window(self):
        steps = [("send", 0), ("send", 1), ("come",), ("double",), ("tell",), ("hear",)]
        plays = [[]]
        for _ in range(5):
            plays = [play + [step] for play in plays for step in steps]
        full = sends(0, 4) + comes(4)
        for play in plays:
            self.assertEqual(play_numbers(3, 4, full + play), ([], []), msg=play)


if __name__ == "__main__":
    unittest.main()
