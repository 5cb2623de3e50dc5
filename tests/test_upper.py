"""Points [32] to [36]: the upper layer, alone, in pairs, and with covers over several stays."""

import random
import unittest

from bearerwise.counts import short_of, window
from bearerwise.covers import cover, uncover
from bearerwise.errors import NotValid
from bearerwise.upper import UpperReceiver, UpperSender

ALL_BITS = (4, 5, 6, 7)


def full_sender(bits):
    sender = UpperSender(bits)
    for count in range(window(bits)):
        sender.add([count])
    return sender


def state_of(sender):
    return (sender.base(), sender.next_count(), sender.unconfirmed(), sender.may_add())


def told_by(receiver):
    return (receiver.first_missing(), receiver.held(), receiver.report())


class SenderTest(unittest.TestCase):
    def test_counts_are_0_1_2(self):
        sender = UpperSender(4)
        for count in range(30):
            self.assertEqual(sender.next_count(), count)
            self.assertEqual(sender.add([count]), count)
            sender.confirm(count)
        self.assertEqual(sender.next_count(), 30)

    def test_the_window(self):
        for bits in ALL_BITS:
            sender = UpperSender(bits)
            for count in range(2 ** (bits - 1)):
                self.assertIs(sender.may_add(), True)
                sender.add([count])
            self.assertIs(sender.may_add(), False)
            # The window is counted from the base, however few packets are kept.
            for count in range(1, 2 ** (bits - 1)):
                sender.confirm(count)
                self.assertIs(sender.may_add(), False)
            sender.confirm(0)
            self.assertIs(sender.may_add(), True)

    def test_adding_to_a_full_window_is_refused_and_changes_nothing(self):
        for bits in ALL_BITS:
            sender = full_sender(bits)
            before = state_of(sender)
            for _ in range(3):
                with self.assertRaises(NotValid):
                    sender.add([1])
                self.assertEqual(state_of(sender), before)
            sender.confirm(0)
            self.assertEqual(sender.add([1]), 2 ** (bits - 1))
            with self.assertRaises(NotValid):
                sender.add([1])

    def test_the_base(self):
        sender = UpperSender(4)
        self.assertEqual(sender.base(), 0)
        for count in range(5):
            sender.add([count])
        bases = []
        for count in (1, 0, 3, 2, 4):
            sender.confirm(count)
            bases.append(sender.base())
        self.assertEqual(bases, [0, 2, 2, 4, 5])

    def test_unconfirmed_are_the_packets_as_they_were_added(self):
        sender = UpperSender(4)
        packet = [1, 2]
        sender.add(packet)
        packet.append(3)
        sender.add(packet)
        sender.add([])
        told = sender.unconfirmed()
        self.assertEqual(told, [(0, [1, 2]), (1, [1, 2, 3]), (2, [])])
        self.assertIsInstance(told[0], tuple)
        told[0][1].append(9)
        told.append(None)
        self.assertEqual(sender.unconfirmed(), [(0, [1, 2]), (1, [1, 2, 3]), (2, [])])
        kept = sender.unconfirmed()
        sender.confirm(1)
        self.assertEqual(kept, [(0, [1, 2]), (1, [1, 2, 3]), (2, [])])
        self.assertEqual(sender.unconfirmed(), [(0, [1, 2]), (2, [])])

    def test_confirming_what_is_not_there_does_nothing(self):
        sender = full_sender(4)
        sender.confirm(2)
        before = state_of(sender)
        for count in (2, 8, 9, 10 ** 9, -1, -6, -16):
            sender.confirm(count)
            self.assertEqual(state_of(sender), before)
        sender.confirm(0)
        sender.confirm(0)
        self.assertEqual((sender.base(), sender.add([7])), (1, 8))

    def test_a_report_confirms_what_is_less_than_its_first_and_its_later_ones(self):
        sender = full_sender(4)
        later = [4, 7]
        sender.take_report(2, later)
        self.assertEqual([count for count, _ in sender.unconfirmed()], [2, 3, 5, 6])
        self.assertEqual(later, [4, 7])
        sender.take_report(3, [])
        self.assertEqual([count for count, _ in sender.unconfirmed()], [3, 5, 6])
        sender.take_report(0, [5])
        self.assertEqual([count for count, _ in sender.unconfirmed()], [3, 6])

    def test_a_report_of_what_is_not_there_does_nothing(self):
        sender = full_sender(4)
        before = state_of(sender)
        sender.take_report(0, [])
        sender.take_report(0, [8, 9, 100])
        self.assertEqual(state_of(sender), before)
        sender.take_report(8, [])
        self.assertEqual(state_of(sender), (8, 8, [], True))
        sender.take_report(50, [51])
        self.assertEqual(state_of(sender), (8, 8, [], True))


class ReceiverTest(unittest.TestCase):
    def test_the_example(self):
        receiver = UpperReceiver(4)
        for count in range(7):
            self.assertEqual(receiver.take(count, [count]), [[count]])
        self.assertEqual(receiver.take(9, [9]), [])
        self.assertEqual(receiver.report(), (7, [9]))
        self.assertEqual(receiver.take(7, [7]), [[7]])
        self.assertEqual(receiver.take(8, [8]), [[8], [9]])

    def test_at_first_nothing_has_come(self):
        self.assertEqual(told_by(UpperReceiver(4)), (0, [], (0, [])))

    def test_packets_ahead_of_their_turn_are_held(self):
        receiver = UpperReceiver(4)
        for count in (5, 2, 4):
            self.assertEqual(receiver.take(count, [count]), [])
        self.assertEqual(told_by(receiver), (0, [(2, [2]), (4, [4]), (5, [5])], (0, [2, 4, 5])))
        self.assertEqual(receiver.take(0, [0]), [[0]])
        self.assertEqual(receiver.take(1, [1]), [[1], [2]])
        self.assertEqual(told_by(receiver), (3, [(4, [4]), (5, [5])], (3, [4, 5])))
        self.assertEqual(receiver.take(3, []), [[], [4], [5]])
        self.assertEqual(told_by(receiver), (6, [], (6, [])))

    def test_doubles_are_passed_over(self):
        receiver = UpperReceiver(4)
        receiver.take(0, [0])
        receiver.take(2, [2])
        before = told_by(receiver)
        for short in (0, 2):
            self.assertEqual(receiver.take(short, [99]), [])
            self.assertEqual(receiver.take_count(short, [99]), [])
            self.assertEqual(told_by(receiver), before)
        self.assertEqual(receiver.take(1, [1]), [[1], [2]])
        for short in (0, 1, 2):
            self.assertEqual(receiver.take(short, [99]), [])
        self.assertEqual(told_by(receiver), (3, [], (3, [])))

    def test_a_short_count_of_no_count_is_passed_over(self):
        receiver = UpperReceiver(4)
        for short in range(8, 16):
            self.assertEqual(receiver.take(short, [1]), [])
        self.assertEqual(told_by(receiver), (0, [], (0, [])))

    def test_short_counts_are_read_by_the_first_missing_one(self):
        for bits in ALL_BITS:
            receiver = UpperReceiver(bits)
            for count in range(5 * 2 ** bits):
                self.assertEqual(receiver.take(short_of(count, bits), [count % 256]), [[count % 256]])
            # The greatest count that is read, and one more, which is read as a double.
            first, half = receiver.first_missing(), window(bits)
            self.assertEqual(receiver.take(short_of(first + half - 1, bits), [5]), [])
            self.assertEqual(receiver.take(short_of(first + half, bits), [6]), [])
            self.assertEqual(receiver.held(), [(first + half - 1, [5])])

    def test_whole_counts(self):
        receiver = UpperReceiver(4)
        self.assertEqual(receiver.take_count(1, [1]), [])
        self.assertEqual(receiver.take_count(1000, [5]), [])
        self.assertEqual(receiver.take_count(16, [6]), [])
        self.assertEqual(receiver.take_count(0, [0]), [[0], [1]])
        self.assertEqual(told_by(receiver), (2, [(16, [6]), (1000, [5])], (2, [16, 1000])))

    def test_lists_are_copied(self):
        receiver = UpperReceiver(4)
        ahead, first = [1, 1], [0]
        receiver.take(1, ahead)
        ahead.append(9)
        held, report = receiver.held(), receiver.report()
        held[0][1].append(9)
        held.clear()
        report[1].append(9)
        self.assertEqual(told_by(receiver), (0, [(1, [1, 1])], (0, [1])))
        kept_held, kept_report = receiver.held(), receiver.report()
        given = receiver.take_count(0, first)
        first.append(9)
        self.assertEqual(given, [[0], [1, 1]])
        self.assertEqual((kept_held, kept_report), ([(1, [1, 1])], (0, [1])))
        given[0].append(9)
        self.assertEqual((first, ahead), ([0, 9], [1, 1, 9]))

    def test_any_order_within_the_window_with_doubles(self):
        for seed in range(120):
            chance = random.Random(seed)
            bits = chance.choice(ALL_BITS)
            half = window(bits)
            receiver, came, out = UpperReceiver(bits), set(), []
            for _ in range(300):
                first = receiver.first_missing()
                count = max(0, chance.randrange(first - half, first + half))
                packet = [count % 256, count // 256]
                if chance.randrange(2):
                    given = receiver.take(short_of(count, bits), packet)
                else:
                    given = receiver.take_count(count, packet)
                came.add(count)
                out += given
                reach = min(set(range(len(came) + 1)) - came)
                self.assertEqual(out, [[number % 256, number // 256] for number in range(reach)])
                later = sorted(number for number in came if number > reach)
                self.assertEqual(receiver.report(), (reach, later))
                self.assertEqual(receiver.held(), [(number, [number % 256, number // 256]) for number in later])
                self.assertEqual(receiver.first_missing(), reach)


class PairTest(unittest.TestCase):
    def test_sender_and_receiver_together(self):
        for seed in range(120):
            chance = random.Random(seed)
            bits = chance.choice(ALL_BITS)
            sender, receiver = UpperSender(bits), UpperReceiver(bits)
            went, out, came, reports = [], [], set(), []
            for _ in range(250):
                act = chance.randrange(6)
                if act < 2 and sender.may_add():
                    went.append([len(went) % 256, chance.randrange(256)])
                    self.assertEqual(sender.add(went[-1]), len(went) - 1)
                elif act < 4 and sender.unconfirmed():
                    count, packet = chance.choice(sender.unconfirmed())
                    self.assertEqual(packet, went[count])
                    out += receiver.take(short_of(count, bits), packet)
                    came.add(count)
                elif act == 4:
                    reports.append(receiver.report())
                elif reports:
                    # The last report or an older one.
                    before = [count for count, _ in sender.unconfirmed()]
                    is_last = chance.randrange(2) == 0
                    report = receiver.report() if is_last else chance.choice(reports)
                    sender.take_report(*report)
                    after = [count for count, _ in sender.unconfirmed()]
                    self.assertEqual([count for count in before if count not in came and count not in after], [])
                    if is_last:
                        self.assertEqual(after, [count for count in before if count not in came])
                self.assertEqual(out, went[:len(out)])
                self.assertLessEqual(len(sender.unconfirmed()), window(bits))
            for count, packet in reversed(sender.unconfirmed()):
                out += receiver.take(short_of(count, bits), packet)
            sender.take_report(*receiver.report())
            self.assertEqual((sender.unconfirmed(), sender.base()), ([], len(went)))
            self.assertEqual((sender.next_count(), out), (len(went), went))


class CoveredWay:
    """A way of one bearer that keeps its order, with covers and short counts."""

    def __init__(self, test, bits, bearer, way):
        self.test, self.bits, self.bearer, self.way = test, bits, bearer, way
        self.sender, self.receiver = UpperSender(bits), UpperReceiver(bits)
        self.went, self.out, self.pieces = [], [], []
        self.key = 0

    def take_in(self, packet):
        if self.sender.may_add():
            count = self.sender.add(packet)
            self.went.append(packet)
            self.send(count, packet)

    def send(self, count, packet):
        covered = cover(self.key, self.bearer, self.way, count, packet)
        self.pieces.append((self.key, count, short_of(count, self.bits), covered))

    def arrive(self):
        """The first piece is read by the first missing count, and uncovered with what is read."""
        key, count, short, covered = self.pieces.pop(0)
        expected = self.receiver.first_missing()
        half = window(self.bits)
        read = [
            number for number in range(max(0, expected - half), expected + half)
            if number % 2 ** self.bits == short
        ]
        self.test.assertEqual(read, [count])
        numbers = (self.key, self.bearer, self.way, count)
        packet = uncover(*numbers, covered)
        self.test.assertEqual(packet, self.went[count])
        self.test.assertIsNone(uncover(key, self.bearer, self.way, count + 1, covered))
        self.test.assertIsNone(uncover(key, self.bearer, 1 - self.way, count, covered))
        if key > 0:
            self.test.assertIsNone(uncover(key - 1, self.bearer, self.way, count, covered))
        self.out += self.receiver.take(short, packet)
        self.test.assertEqual(self.out, self.went[:len(self.out)])

    def send_again(self):
        for count, packet in self.sender.unconfirmed():
            self.send(count, packet)

    def begin_stay(self):
        """What was on the way falls out; a report, and then all that is unconfirmed."""
        self.key += 1
        self.pieces = []
        self.sender.take_report(*self.receiver.report())
        self.send_again()

    def play(self, chance, acts):
        for _ in range(acts):
            act = chance.randrange(10)
            if act < 4:
                self.take_in([chance.randrange(256) for _ in range(chance.randrange(9))])
            elif act < 7 and self.pieces:
                self.arrive()
            elif act == 7 and self.pieces:
                self.pieces.pop(0)
            elif act == 8 and self.pieces:
                self.pieces.insert(1, self.pieces[0])
            elif act == 9 and not self.pieces:
                self.sender.take_report(*self.receiver.report())
                self.send_again()

    def bring_all(self):
        while self.pieces:
            self.arrive()
        self.sender.take_report(*self.receiver.report())
        self.send_again()
        while self.pieces:
            self.arrive()
        self.sender.take_report(*self.receiver.report())
        self.test.assertEqual(self.out, self.went)
        self.test.assertEqual(self.sender.unconfirmed(), [])
        self.test.assertEqual(self.sender.base(), len(self.went))


class CoveredTest(unittest.TestCase):
    def test_over_a_way_that_keeps_the_order(self):
        for seed in range(80):
            chance = random.Random(seed)
            way = CoveredWay(self, chance.choice(ALL_BITS), chance.randrange(4), chance.randrange(2))
            way.play(chance, 300)
            way.bring_all()

    def test_over_several_stays(self):
        for seed in range(80):
            chance = random.Random(seed)
            way = CoveredWay(self, chance.choice(ALL_BITS), chance.randrange(4), chance.randrange(2))
            for _ in range(chance.randrange(2, 8)):
                way.play(chance, chance.randrange(100))
                way.begin_stay()
            way.bring_all()


if __name__ == "__main__":
    unittest.main()
