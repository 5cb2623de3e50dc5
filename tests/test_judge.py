"""Points [59] to [61]: the judge."""

import copy
import unittest

from bearerwise.judge import bill_fault, first_fault

WENT = [[1], [2, 3], [4]]


class PacketsTest(unittest.TestCase):
    def test_the_examples(self):
        self.assertEqual(first_fault([[1], [2, 3]], [[1]], 4, False), "")
        self.assertEqual(first_fault([[1], [2, 3]], [[1]], 4, True), "missing")
        self.assertEqual(first_fault([[1]], [[2]], 4, False), "order")

    def test_no_fault(self):
        for came_out in ([], WENT[:1], WENT[:2], WENT):
            self.assertEqual(first_fault(WENT, came_out, 3, False), "")
        self.assertEqual(first_fault(WENT, WENT, 0, True), "")
        self.assertEqual(first_fault([], [], 0, True), "")

    def test_order(self):
        for came_out in (
            [[9]], [[2, 3]], [[1], [4]], [[1], [2]], [[1], [2, 3, 3]], [[1], [3, 2]], [[1], [1]], [[]],
            [[2, 3], [1]], [[1], [2, 3], [5]], WENT + [[4]], WENT + [[]],
        ):
            for quiet in (False, True):
                self.assertEqual(first_fault(WENT, came_out, 3, quiet), "order", msg=came_out)
        self.assertEqual(first_fault([], [[1]], 3, False), "order")

    def test_held(self):
        self.assertEqual(first_fault(WENT, [], 2, False), "held")
        self.assertEqual(first_fault(WENT, WENT[:1], 1, False), "held")
        self.assertEqual(first_fault(WENT, WENT[:1], 2, False), "")
        self.assertEqual(first_fault(WENT, WENT[:2], 0, False), "held")
        self.assertEqual(first_fault(WENT, WENT, 0, False), "")
        self.assertEqual(first_fault([], [], -1, False), "held")

    def test_missing(self):
        for came_out in ([], WENT[:1], WENT[:2]):
            self.assertEqual(first_fault(WENT, came_out, 3, True), "missing")

    def test_the_order_of_the_faults(self):
        self.assertEqual(first_fault(WENT, [[9]], 1, True), "order")
        self.assertEqual(first_fault(WENT, WENT[:1], 1, True), "held")

    def test_no_list_is_changed(self):
        went, came = copy.deepcopy(WENT), copy.deepcopy(WENT[:2])
        first_fault(went, came, 1, True)
        first_fault(came, went, 1, True)
        bill_fault(went, 4, 4, True)
        self.assertEqual((went, came), (WENT, WENT[:2]))


class BillTest(unittest.TestCase):
    def test_the_example(self):
        self.assertEqual(bill_fault([[1], [2, 3]], 3, 1, False), "")

    def test_no_fault(self):
        for billed in (0, 1, 3, 4):
            self.assertEqual(bill_fault(WENT, 4, billed, False), "")
        self.assertEqual(bill_fault(WENT, 4, 4, True), "")
        for is_settled in (False, True):
            self.assertEqual(bill_fault([], 0, 0, is_settled), "")

    def test_metered(self):
        for metered in (0, 3, 5):
            for billed in (0, 3, 4, 5, 6):
                for is_settled in (False, True):
                    self.assertEqual(bill_fault(WENT, metered, billed, is_settled), "metered")
        self.assertEqual(bill_fault([], 1, 1, True), "metered")

    def test_billed(self):
        for is_settled in (False, True):
            self.assertEqual(bill_fault(WENT, 4, 5, is_settled), "billed")
            self.assertEqual(bill_fault([], 0, 1, is_settled), "billed")

    def test_open(self):
        for billed in (0, 3):
            self.assertEqual(bill_fault(WENT, 4, billed, True), "open")


if __name__ == "__main__":
    unittest.main()
