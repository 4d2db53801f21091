"""Each kind of thing, with orders that explain what was answered and orders that don't."""

import unittest

from asifbehind.histories import follows
from telling import BOX, GREATEST, GREATEST_ANSWER, ROW, SET, SUM, at_once, every_order, one_by_one


class AtOnce(unittest.TestCase):
    """Calls that all lie over one another: the answers alone tell which orders explain them."""

    def only(self, kind, told, orders):
        """Of all the orders there are of these calls, just these explain them."""
        for numbers in every_order(range(len(told) // 6)):
            self.assertEqual(follows(kind, told, list(numbers)), [int(numbers in orders)], numbers)

    def test_box(self):
        self.only(BOX, at_once((0, 0, 0, 4), (2, 3, 4, 1), (1, 3, 0, 0)), [(2, 1, 0)])
        self.only(BOX, at_once((0, 0, 0, 4), (2, 3, 4, 0), (1, 3, 0, 0)), [])
        self.only(BOX, at_once((0, 0, 0, 0), (1, 7, 0, 0), (1, 0, 0, 0)), [(0, 1, 2), (0, 2, 1), (1, 2, 0), (2, 0, 1)])

    def test_box_whose_number_is_not_a(self):
        self.only(BOX, at_once((2, 5, 6, 0), (0, 0, 0, 0)), [(0, 1), (1, 0)])
        self.only(BOX, at_once((2, 5, 6, 0), (0, 0, 0, 6)), [])

    def test_row(self):
        self.only(ROW, at_once((1, 0, 0, 3), (1, 0, 0, 2), (0, 1, 0, 0), (0, 2, 0, 0)),
                  [(2, 1, 3, 0), (2, 3, 1, 0), (3, 0, 2, 1), (3, 2, 0, 1)])
        self.only(ROW, at_once((1, 0, 0, 3), (1, 0, 0, 3), (0, 1, 0, 0), (0, 2, 0, 0)), [])
        self.only(ROW, at_once((1, 0, 0, 0), (0, 0, 0, 0), (1, 0, 0, 1)), [(0, 1, 2), (1, 2, 0)])

    def test_set(self):
        self.only(SET, at_once((2, 5, 0, 0), (1, 5, 0, 1), (2, 5, 0, 1), (0, 5, 0, 1)), [(0, 3, 2, 1), (3, 2, 1, 0)])
        self.only(SET, at_once((0, 5, 0, 1), (0, 5, 0, 1), (2, 5, 0, 1)), [])
        self.only(SET, at_once((0, 5, 0, 0), (0, 5, 0, 1), (1, 6, 0, 0)), [(1, 0, 2), (1, 2, 0), (2, 1, 0)])

    def test_sum(self):
        self.only(SUM, at_once((1, 0, 0, 7), (0, 3, 0, 4), (0, 4, 0, 0)), [(2, 1, 0)])
        self.only(SUM, at_once((1, 0, 0, 3), (0, 3, 0, 4), (0, 4, 0, 0)), [])
        self.only(SUM, at_once((1, 0, 0, 0), (0, 0, 0, 0), (0, 0, 0, 0)), every_order(range(3))[-6:])


class Greatest(unittest.TestCase):
    def test_numbers_at_their_greatest(self):
        for kind, calls in (
            (BOX, ((1, GREATEST, 0, 0), (2, GREATEST, GREATEST, 1), (0, 0, 0, GREATEST))),
            (ROW, ((0, GREATEST, 0, 0), (1, 0, 0, GREATEST + 1), (1, 0, 0, 0))),
            (SET, ((0, GREATEST, 0, 1), (2, GREATEST, 0, 1), (1, GREATEST, 0, 1))),
            (SUM, ((0, GREATEST, 0, 0), (0, 3, 0, GREATEST), (1, 0, 0, 2))),
        ):
            self.assertEqual(follows(kind, one_by_one(*calls), [0, 1, 2]), [1])
            for at in range(3):
                what, a, b, answered = calls[at]
                for other in (answered + 1, answered + 2 ** 32, GREATEST_ANSWER):
                    spoilt = calls[:at] + ((what, a, b, other),) + calls[at + 1:]
                    self.assertEqual(follows(kind, one_by_one(*spoilt), [0, 1, 2]), [0])


if __name__ == "__main__":
    unittest.main()
