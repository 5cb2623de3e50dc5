"""Points [49] to [51]: the anchor."""

import random
import unittest

from bearerwise.bills import Meter
from bearerwise.cells import Anchor
from bearerwise.counts import window
from bearerwise.errors import NotValid

ALL_BITS = (4, 5, 6, 7)


def begun(bearers=1, count_bits=4):
    """An anchor whose stay 0 has begun."""
    anchor = Anchor(bearers, count_bits)
    anchor.begin_stay([(0, [])] * bearers)
    return anchor


def state_of(anchor, bearers):
    told = [(anchor.out(bearer), anchor.unconfirmed(bearer)) for bearer in range(bearers)]
    metered = [anchor.meter.metered(bearer, way) for bearer in range(bearers) for way in (0, 1)]
    return (told, metered, anchor.meter.is_settled())


class PutTest(unittest.TestCase):
    def test_the_letter_has_the_next_count_of_its_bearer(self):
        anchor = begun(bearers=2)
        self.assertEqual(anchor.put(0, [1, 2]), ("down", 0, 0, [1, 2]))
        self.assertEqual(anchor.put(1, [3]), ("down", 1, 0, [3]))
        self.assertEqual(anchor.put(1, [4]), ("down", 1, 1, [4]))
        self.assertEqual(anchor.unconfirmed(0), [(0, [1, 2])])
        self.assertEqual(anchor.unconfirmed(1), [(0, [3]), (1, [4])])

    def test_none_just_if_the_window_is_full(self):
        for bits in ALL_BITS:
            anchor = begun(bearers=2, count_bits=bits)
            for count in range(2 ** (bits - 1)):
                self.assertEqual(anchor.put(1, [7]), ("down", 1, count, [7]))
            before = state_of(anchor, 2)
            self.assertIsNone(anchor.put(1, [7]))
            self.assertEqual(state_of(anchor, 2), before)
            self.assertIsNotNone(anchor.put(0, [7]))
            anchor.take_letter(("confirmed", 1, 1), 0)
            self.assertIsNone(anchor.put(1, [7]))
            anchor.take_letter(("confirmed", 1, 0), 0)
            self.assertEqual(anchor.put(1, [7]), ("down", 1, 2 ** (bits - 1), [7]))

    def test_sizes(self):
        anchor = begun(count_bits=7)
        for size in (1, 2, 195, 196):
            self.assertEqual(anchor.put(0, [5] * size)[3], [5] * size)
        before = state_of(anchor, 1)
        for wrong in ([], [5] * 197, [5] * 200, [256], [-1]):
            with self.assertRaises(NotValid):
                anchor.put(0, wrong)
            self.assertEqual(state_of(anchor, 1), before)

    def test_sizes_with_a_full_window(self):
        anchor = begun()
        for _ in range(8):
            anchor.put(0, [1])
        before = state_of(anchor, 1)
        for wrong in ([], [5] * 197):
            with self.assertRaises(NotValid):
                anchor.put(0, wrong)
        self.assertEqual(state_of(anchor, 1), before)

    def test_lists_may_be_changed(self):
        anchor = begun()
        packet = [1]
        letter = anchor.put(0, packet)
        packet.append(2)
        letter[3].append(3)
        self.assertEqual(anchor.unconfirmed(0), [(0, [1])])
        anchor.unconfirmed(0)[0][1].append(4)
        told = anchor.begin_stay([(0, [])])
        told[0][3].append(5)
        self.assertEqual(anchor.unconfirmed(0), [(0, [1])])
        self.assertEqual(packet, [1, 2])


class UpTest(unittest.TestCase):
    def test_packets_are_given_out_in_order_each_once(self):
        anchor = begun(bearers=2)
        self.assertEqual(anchor.take_letter(("up", 0, 1, [1]), 0), [])
        self.assertEqual(anchor.take_letter(("up", 0, 2, [2]), 0), [])
        self.assertEqual(anchor.take_letter(("up", 1, 0, [9]), 0), [[9]])
        self.assertEqual(anchor.take_letter(("up", 0, 0, [0]), 0), [[0], [1], [2]])
        for count in range(3):
            self.assertEqual(anchor.take_letter(("up", 0, count, [count]), 0), [])
        self.assertEqual((anchor.out(0), anchor.out(1)), ([[0], [1], [2]], [[9]]))

    def test_letters_of_elder_stays_bring_packets_too(self):
        anchor = begun()
        anchor.begin_stay([(0, [])])
        anchor.begin_stay([(0, [])])
        self.assertEqual(anchor.take_letter(("up", 0, 1, [1]), 0), [])
        self.assertEqual(anchor.take_letter(("up", 0, 0, [0]), 1), [[0], [1]])

    def test_lists_may_be_changed(self):
        anchor = begun()
        packet = [1]
        anchor.take_letter(("up", 0, 1, packet), 0)
        packet.append(9)
        anchor.take_letter(("up", 0, 0, packet), 0)[0].append(8)
        anchor.out(0)[1].append(7)
        anchor.out(0).clear()
        self.assertEqual(anchor.out(0), [[1, 9], [1]])
        self.assertEqual(packet, [1, 9])
        kept = anchor.out(0)
        anchor.take_letter(("up", 0, 2, [3]), 0)
        self.assertEqual(kept, [[1, 9], [1]])

    def test_packets_in_any_order_within_the_window(self):
        for seed in range(60):
            chance = random.Random(seed)
            bits = chance.choice(ALL_BITS)
            anchor, came, out = begun(count_bits=bits), set(), []
            for _ in range(200):
                least = min(set(range(len(came) + 1)) - came)
                count = max(0, least + chance.randrange(-3, window(bits)))
                came.add(count)
                out += anchor.take_letter(("up", 0, count, [count % 256] * (1 + count % 5)), 0)
                first = min(set(range(len(came) + 1)) - came)
                self.assertEqual(out, [[number % 256] * (1 + number % 5) for number in range(first)])
                self.assertEqual(anchor.out(0), out)
                self.assertEqual(anchor.meter.metered(0, 1), sum(map(len, out)))
            self.assertEqual(anchor.meter.metered(0, 0), 0)


class MeterTest(unittest.TestCase):
    def test_the_field(self):
        self.assertIsInstance(Anchor(1, 4).meter, Meter)

    def test_bytes_are_metered_when_they_are_taken_in_and_when_they_are_given_out(self):
        anchor = begun(bearers=2)
        anchor.put(0, [1] * 5)
        anchor.put(1, [1] * 7)
        anchor.put(0, [1] * 2)
        self.assertEqual([anchor.meter.metered(bearer, 0) for bearer in (0, 1)], [7, 7])
        anchor.take_letter(("up", 0, 1, [1] * 10), 0)
        self.assertEqual(anchor.meter.metered(0, 1), 0)
        anchor.take_letter(("up", 0, 0, [1] * 20), 0)
        anchor.take_letter(("up", 0, 0, [1] * 20), 0)
        self.assertEqual([anchor.meter.metered(bearer, 1) for bearer in (0, 1)], [30, 0])
        # What is sent again is not metered again.
        anchor.begin_stay([(0, [])] * 2)
        self.assertEqual([anchor.meter.metered(bearer, 0) for bearer in (0, 1)], [7, 7])

    def test_a_refused_packet_is_not_metered(self):
        anchor = begun()
        for _ in range(9):
            anchor.put(0, [1] * 3)
        self.assertEqual(anchor.meter.metered(0, 0), 24)


class StayTest(unittest.TestCase):
    def test_the_letters_of_a_new_stay(self):
        anchor = Anchor(3, 4)
        self.assertEqual(anchor.begin_stay([(0, [])] * 3), [])
        for bearer, many in ((2, 5), (0, 2), (1, 4)):
            for count in range(many):
                anchor.put(bearer, [bearer, count])
        anchor.take_letter(("confirmed", 1, 2), 0)
        told = [(0, []), (1, []), (2, [3])]
        self.assertEqual(anchor.begin_stay(told), [
            ("down", 0, 0, [0, 0]), ("down", 0, 1, [0, 1]), ("down", 1, 1, [1, 1]), ("down", 1, 3, [1, 3]),
            ("down", 2, 2, [2, 2]), ("down", 2, 4, [2, 4]),
        ])
        self.assertEqual(told, [(0, []), (1, []), (2, [3])])
        self.assertEqual(anchor.unconfirmed(2), [(2, [2, 2]), (4, [2, 4])])
        # Nothing is confirmed by being sent again.
        self.assertEqual(len(anchor.begin_stay([(0, [])] * 3)), 6)

    def test_the_first_stay_is_0(self):
        anchor = Anchor(1, 4)
        anchor.begin_stay([(0, [])])
        anchor.put(0, [1])
        for stay in (1, 2):
            anchor.take_letter(("confirmed", 0, 0), stay)
            self.assertEqual(anchor.unconfirmed(0), [(0, [1])])
        self.assertEqual(anchor.take_letter(("confirmed", 0, 0), 0), [])
        self.assertEqual(anchor.unconfirmed(0), [])

    def test_a_confirmed_letter_of_another_stay_is_passed_over(self):
        anchor = begun()
        anchor.put(0, [1])
        anchor.put(0, [2])
        anchor.begin_stay([(0, [])])
        anchor.begin_stay([(0, [])])
        for stay in (0, 1, 3):
            anchor.take_letter(("confirmed", 0, 0), stay)
            self.assertEqual(anchor.unconfirmed(0), [(0, [1]), (1, [2])])
        anchor.take_letter(("confirmed", 0, 1), 2)
        self.assertEqual(anchor.unconfirmed(0), [(0, [1])])

    def test_confirming_twice_or_what_was_never_given(self):
        anchor = begun(bearers=2)
        anchor.put(0, [1])
        anchor.put(0, [2])
        for count in (1, 1, 2, 8, 100):
            anchor.take_letter(("confirmed", 0, count), 0)
            self.assertEqual(anchor.unconfirmed(0), [(0, [1])])
        self.assertEqual(anchor.put(0, [3]), ("down", 0, 2, [3]))

    def test_downward_over_several_stays(self):
        for seed in range(60):
            chance = random.Random(seed)
            bits = chance.choice(ALL_BITS)
            anchor, stay, went, kept = begun(count_bits=bits), 0, [], {}
            for _ in range(150):
                act = chance.randrange(8)
                base = min(kept, default=len(went))
                if act < 4:
                    packet = [chance.randrange(256)]
                    letter = anchor.put(0, packet)
                    if len(went) - base < window(bits):
                        self.assertEqual(letter, ("down", 0, len(went), packet))
                        kept[len(went)] = packet
                        went.append(packet)
                    else:
                        self.assertIsNone(letter)
                elif act < 7:
                    count, of_stay = chance.randrange(len(went) + 2), max(0, stay - chance.randrange(2))
                    anchor.take_letter(("confirmed", 0, count), of_stay)
                    if of_stay == stay:
                        kept.pop(count, None)
                else:
                    first = chance.randrange(base, len(went) + 1)
                    later = [count for count in range(first + 1, len(went)) if chance.randrange(3) == 0]
                    letters = anchor.begin_stay([(first, later)])
                    stay += 1
                    kept = {count: kept[count] for count in kept if count >= first and count not in later}
                    self.assertEqual(letters, [("down", 0, count, packet) for count, packet in kept.items()])
                self.assertEqual(anchor.unconfirmed(0), list(kept.items()))
            self.assertEqual(anchor.meter.metered(0, 0), len(went))


if __name__ == "__main__":
    unittest.main()
