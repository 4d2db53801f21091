"""Each kind of thing with each of its sorts of call."""

import unittest

from asifbehind.histories import order
from telling import BOX, ROW, SET, SUM, GREATEST, at_once, one_by_one


class OneByOne(unittest.TestCase):
    """Calls that leave no choice of order: only the answers tell whether it explains them."""

    def takes(self, kind, *calls):
        self.assertEqual(order(kind, one_by_one(*calls)), [len(calls)] + list(range(len(calls))))

    def refuses(self, kind, *calls):
        self.assertEqual(order(kind, one_by_one(*calls)), [-33])

    def only_last_answer(self, kind, before, what, a, b, answered):
        """The last call is explained by this answer and by none beside it."""
        self.takes(kind, *before, (what, a, b, answered))
        for other in (0, 1, 2, 3, answered + 1, 2 ** 64 - 1):
            if other != answered:
                self.refuses(kind, *before, (what, a, b, other))


class Box(OneByOne):
    def test_holds_0_at_first(self):
        self.only_last_answer(BOX, [], 0, 0, 0, 0)

    def test_write_is_answered_0(self):
        self.only_last_answer(BOX, [], 1, 7, 9, 0)

    def test_read_tells_what_was_written_last(self):
        self.only_last_answer(BOX, [(1, 7, 9, 0)], 0, 5, 6, 7)
        self.only_last_answer(BOX, [(1, 7, 0, 0), (1, 8, 0, 0)], 0, 0, 0, 8)

    def test_swap_where_it_is_a(self):
        self.only_last_answer(BOX, [(1, 7, 0, 0)], 2, 7, 9, 1)
        self.only_last_answer(BOX, [(1, 7, 0, 0), (2, 7, 9, 1)], 0, 0, 0, 9)

    def test_swap_where_it_is_not_a(self):
        self.only_last_answer(BOX, [(1, 7, 0, 0)], 2, 8, 9, 0)
        self.only_last_answer(BOX, [(1, 7, 0, 0), (2, 8, 9, 0)], 0, 0, 0, 7)

    def test_swap_of_the_first_number(self):
        self.only_last_answer(BOX, [(2, 0, 4, 1)], 0, 0, 0, 4)

    def test_swap_with_the_same(self):
        self.only_last_answer(BOX, [], 2, 0, 0, 1)

    def test_greatest_number(self):
        self.only_last_answer(BOX, [(1, GREATEST, 0, 0)], 0, 0, 0, GREATEST)
        self.only_last_answer(BOX, [(2, 0, GREATEST, 1)], 2, GREATEST, 1, 1)


class Row(OneByOne):
    def test_none_goes_out_at_first(self):
        self.only_last_answer(ROW, [], 1, 5, 5, 0)

    def test_coming_in_is_answered_0(self):
        self.only_last_answer(ROW, [], 0, 5, 8, 0)
        self.only_last_answer(ROW, [(0, 5, 0, 0)], 0, 5, 8, 0)

    def test_first_in_goes_out_first(self):
        two = [(0, 5, 0, 0), (0, 3, 0, 0)]
        self.only_last_answer(ROW, two, 1, 0, 0, 6)
        self.only_last_answer(ROW, two + [(1, 0, 0, 6)], 1, 0, 0, 4)
        self.only_last_answer(ROW, two + [(1, 0, 0, 6), (1, 0, 0, 4)], 1, 0, 0, 0)

    def test_same_number_twice(self):
        self.only_last_answer(ROW, [(0, 5, 0, 0), (0, 5, 0, 0), (1, 0, 0, 6)], 1, 0, 0, 6)

    def test_0_goes_out_as_1(self):
        self.only_last_answer(ROW, [(0, 0, 0, 0)], 1, 0, 0, 1)

    def test_greatest_number_goes_out_as_one_more(self):
        self.only_last_answer(ROW, [(0, GREATEST, 0, 0)], 1, 0, 0, GREATEST + 1)

    def test_out_of_an_empty_row_leaves_it_as_it_is(self):
        self.only_last_answer(ROW, [(1, 0, 0, 0), (0, 2, 0, 0)], 1, 0, 0, 3)


class Set(OneByOne):
    def test_none_in_it_at_first(self):
        self.only_last_answer(SET, [], 2, 0, 0, 0)
        self.only_last_answer(SET, [], 1, 0, 0, 0)

    def test_put_in(self):
        self.only_last_answer(SET, [], 0, 5, 6, 1)
        self.only_last_answer(SET, [(0, 5, 0, 1)], 0, 5, 6, 0)
        self.only_last_answer(SET, [(0, 5, 0, 1)], 0, 6, 5, 1)

    def test_taken_out(self):
        self.only_last_answer(SET, [(0, 5, 0, 1)], 1, 5, 6, 1)
        self.only_last_answer(SET, [(0, 5, 0, 1)], 1, 6, 5, 0)
        self.only_last_answer(SET, [(0, 5, 0, 1), (1, 5, 0, 1)], 1, 5, 0, 0)

    def test_asked(self):
        self.only_last_answer(SET, [(0, 5, 0, 1)], 2, 5, 6, 1)
        self.only_last_answer(SET, [(0, 5, 0, 1)], 2, 6, 5, 0)
        self.only_last_answer(SET, [(0, 5, 0, 1), (2, 5, 0, 1)], 2, 5, 0, 1)
        self.only_last_answer(SET, [(0, 5, 0, 1), (1, 5, 0, 1)], 2, 5, 0, 0)

    def test_put_in_twice_is_out_when_taken_out_once(self):
        self.only_last_answer(SET, [(0, 5, 0, 1), (0, 5, 0, 0), (1, 5, 0, 1)], 2, 5, 0, 0)

    def test_taking_one_out_leaves_the_others(self):
        three = [(0, 9, 0, 1), (0, 0, 0, 1), (0, 4, 0, 1), (1, 4, 0, 1)]
        self.only_last_answer(SET, three, 2, 9, 0, 1)
        self.only_last_answer(SET, three, 2, 0, 0, 1)
        self.only_last_answer(SET, three, 2, 4, 0, 0)

    def test_greatest_number(self):
        self.only_last_answer(SET, [(0, GREATEST, 0, 1)], 2, GREATEST, 0, 1)


class Sum(OneByOne):
    def test_0_at_first(self):
        self.only_last_answer(SUM, [], 1, 5, 6, 0)

    def test_adding_tells_what_it_was_before(self):
        self.only_last_answer(SUM, [], 0, 5, 6, 0)
        self.only_last_answer(SUM, [(0, 5, 0, 0)], 0, 3, 6, 5)
        self.only_last_answer(SUM, [(0, 5, 0, 0), (0, 3, 0, 5)], 1, 9, 9, 8)

    def test_asking_adds_nothing(self):
        self.only_last_answer(SUM, [(0, 5, 0, 0), (1, 7, 7, 5)], 1, 0, 0, 5)

    def test_goes_round(self):
        self.only_last_answer(SUM, [(0, GREATEST, 0, 0)], 1, 0, 0, GREATEST)
        self.only_last_answer(SUM, [(0, GREATEST, 0, 0), (0, 1, 0, GREATEST)], 1, 0, 0, 0)
        self.only_last_answer(SUM, [(0, GREATEST, 0, 0), (0, 3, 0, GREATEST)], 0, 4, 0, 2)
        self.only_last_answer(SUM, [(0, GREATEST, 0, 0), (0, GREATEST, 0, GREATEST)], 1, 0, 0, GREATEST - 1)


class AtOnce(unittest.TestCase):
    """Calls that all lie over one another: the answers alone make the order."""

    def test_box(self):
        self.assertEqual(order(BOX, at_once((0, 0, 0, 4), (2, 3, 4, 1), (1, 3, 0, 0))), [3, 2, 1, 0])
        self.assertEqual(order(BOX, at_once((0, 0, 0, 4), (2, 3, 4, 0), (1, 3, 0, 0))), [-33])

    def test_row(self):
        self.assertEqual(order(ROW, at_once((1, 0, 0, 3), (1, 0, 0, 2), (0, 1, 0, 0), (0, 2, 0, 0))), [4, 2, 1, 3, 0])
        self.assertEqual(order(ROW, at_once((1, 0, 0, 3), (1, 0, 0, 3), (0, 1, 0, 0), (0, 2, 0, 0))), [-33])

    def test_set(self):
        self.assertEqual(order(SET, at_once((2, 5, 0, 0), (1, 5, 0, 1), (2, 5, 0, 1), (0, 5, 0, 1))), [4, 0, 3, 2, 1])
        self.assertEqual(order(SET, at_once((0, 5, 0, 1), (0, 5, 0, 1), (2, 5, 0, 1))), [-33])

    def test_sum(self):
        self.assertEqual(order(SUM, at_once((1, 0, 0, 7), (0, 3, 0, 4), (0, 4, 0, 0))), [3, 2, 1, 0])
        self.assertEqual(order(SUM, at_once((1, 0, 0, 3), (0, 3, 0, 4), (0, 4, 0, 0))), [-33])

    def test_the_set_is_the_same_whichever_way_it_was_filled(self):
        filled = at_once(*[(0, a, 0, 1) for a in (7, 6, 5, 4, 3, 2, 1)])
        self.assertEqual(order(SET, filled), [7, 0, 1, 2, 3, 4, 5, 6])


if __name__ == "__main__":
    unittest.main()
