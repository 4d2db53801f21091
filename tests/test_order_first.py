"""Which of the orders is told, which calls stand in it, and what the moments allow."""

import unittest

from asifbehind.histories import order
from telling import BOX, ROW, SET, SUM, GREATEST_ANSWER, NEVER, at_once, call, history


class FirstOne(unittest.TestCase):
    def test_least_call_first_where_all_may_stand_anywhere(self):
        self.assertEqual(order(BOX, at_once((0, 0, 0, 0), (0, 0, 0, 0), (0, 0, 0, 0))), [3, 0, 1, 2])

    def test_least_call_that_is_answered_so_but_leads_nowhere_is_passed_over(self):
        # Call 0 by itself could stand first; but then 7 would have to go out ahead of 5.
        told = history(call(0, 9, 0, 7), call(0, 9, 1, 0, 0, 6), call(0, 9, 0, 5), call(10, 11, 1, 0, 0, 8))
        self.assertEqual(order(ROW, told), [4, 2, 0, 1, 3])
        self.assertEqual(order(BOX, at_once((1, 1, 0, 0), (0, 0, 0, 0), (1, 2, 0, 0))), [3, 1, 0, 2])

    def test_least_at_each_step_not_the_least_of_those_left_to_the_end(self):
        told = at_once((0, 0, 0, 2), (1, 1, 0, 0), (1, 2, 0, 0), (0, 0, 0, 1))
        self.assertEqual(order(BOX, told), [4, 1, 3, 2, 0])

    def test_first_is_least_though_told_later_in_time(self):
        self.assertEqual(order(BOX, history(call(5, 9, 0), call(0, 6, 0), call(1, 7, 0))), [3, 0, 1, 2])

    def test_one_that_ended_before_goes_before_whatever_its_number(self):
        self.assertEqual(order(BOX, history(call(6, 7, 0), call(4, 5, 0), call(2, 3, 0), call(0, 1, 0))), [4, 3, 2, 1, 0])

    def test_last_of_sixteen_may_be_first(self):
        told = [call(2 * at, 2 * at + 1, 1) for at in reversed(range(16))]
        self.assertEqual(order(ROW, history(*told)), [16] + list(reversed(range(16))))


class NotEnded(unittest.TestCase):
    def test_none_ended(self):
        self.assertEqual(order(BOX, history(call(0, NEVER, 1, 5), call(3, NEVER, 0))), [0])
        self.assertEqual(order(SUM, history(call(NEVER, NEVER, 0, 5))), [0])

    def test_lower_number_is_in_the_order_though_not_needed(self):
        self.assertEqual(order(BOX, history(call(0, NEVER, 0), call(0, 1, 0))), [2, 0, 1])

    def test_higher_number_is_left_out_once_all_that_ended_are_done(self):
        self.assertEqual(order(BOX, history(call(0, 1, 0), call(0, NEVER, 0))), [1, 0])

    def test_stops_between(self):
        told = history(call(0, NEVER, 0), call(0, 1, 0), call(0, NEVER, 0), call(0, 1, 0), call(0, NEVER, 0))
        self.assertEqual(order(BOX, told), [4, 0, 1, 2, 3])

    def test_needed_for_what_another_was_answered(self):
        self.assertEqual(order(BOX, history(call(0, 5, 0, 0, 0, 7), call(0, NEVER, 1, 7))), [2, 1, 0])
        self.assertEqual(order(ROW, history(call(0, 5, 1, 0, 0, 8), call(0, NEVER, 0, 7))), [2, 1, 0])
        self.assertEqual(order(SET, history(call(0, 5, 2, 7, 0, 1), call(0, NEVER, 0, 7))), [2, 1, 0])
        self.assertEqual(order(SUM, history(call(0, 5, 1, 0, 0, 7), call(0, NEVER, 0, 7))), [2, 1, 0])

    def test_left_out_where_it_would_spoil_an_answer(self):
        self.assertEqual(order(BOX, history(call(0, NEVER, 1, 7), call(0, 5, 0, 0, 0, 0))), [1, 1])
        self.assertEqual(order(ROW, history(call(0, NEVER, 0, 7), call(0, 5, 1, 0, 0, 0))), [1, 1])
        self.assertEqual(order(SET, history(call(0, NEVER, 0, 7), call(0, 5, 2, 7, 0, 0))), [1, 1])
        self.assertEqual(order(SUM, history(call(0, NEVER, 0, 7), call(0, 5, 1, 0, 0, 0))), [1, 1])

    def test_put_off_till_it_spoils_nothing(self):
        told = history(call(0, NEVER, 1, 7), call(0, 5, 0, 0, 0, 0), call(6, 9, 0, 0, 0, 7))
        self.assertEqual(order(BOX, told), [3, 1, 0, 2])

    def test_whatever_it_was_answered(self):
        for answered in (0, 1, 7, NEVER, GREATEST_ANSWER):
            told = history(call(0, NEVER, 2, 0, 7, answered), call(0, 5, 0, 0, 0, 7))
            self.assertEqual(order(BOX, told), [2, 0, 1])

    def test_once_at_most(self):
        told = history(call(0, 5, 1, 0, 0, 8), call(0, 5, 1, 0, 0, 8), call(0, NEVER, 0, 7))
        self.assertEqual(order(ROW, told), [-33])

    def test_not_before_one_that_ended_before_it_began(self):
        self.assertEqual(order(BOX, history(call(6, NEVER, 1, 7), call(0, 5, 0, 0, 0, 7))), [-33])
        self.assertEqual(order(BOX, history(call(6, NEVER, 0), call(0, 5, 0))), [1, 1])

    def test_one_that_did_not_end_holds_none_back(self):
        self.assertEqual(order(BOX, history(call(0, NEVER, 1, 7), call(NEVER - 1, NEVER - 1, 0))), [1, 1])
        self.assertEqual(order(BOX, history(call(0, NEVER - 1, 0), call(NEVER, NEVER, 1, 7))), [1, 0])

    def test_ended_at_the_last_moment_that_there_is(self):
        self.assertEqual(order(BOX, history(call(0, NEVER - 1, 0, 0, 0, 7))), [-33])
        self.assertEqual(order(BOX, history(call(0, NEVER, 0, 0, 0, 7))), [0])
        self.assertEqual(order(BOX, history(call(NEVER, NEVER, 1, 7), call(0, NEVER - 1, 0, 0, 0, 7))), [-33])


class Moments(unittest.TestCase):
    """Call 0 reads 7, which call 1 wrote: so call 1 must stand before call 0."""

    def reads_before_written(self, read_ended, write_began):
        return order(BOX, history(call(0, read_ended, 0, 0, 0, 7), call(write_began, 20, 1, 7)))

    def test_began_at_the_very_moment_of_the_end(self):
        self.assertEqual(self.reads_before_written(10, 10), [2, 1, 0])

    def test_began_before_the_end(self):
        self.assertEqual(self.reads_before_written(10, 9), [2, 1, 0])

    def test_began_after_the_end(self):
        self.assertEqual(self.reads_before_written(10, 11), [-33])

    def test_all_within_one_moment(self):
        self.assertEqual(order(BOX, history(call(4, 4, 0, 0, 0, 7), call(4, 4, 1, 7))), [2, 1, 0])

    def test_moments_far_apart(self):
        self.assertEqual(order(BOX, history(call(0, 0, 0, 0, 0, 7), call(NEVER - 1, NEVER - 1, 1, 7))), [-33])
        self.assertEqual(order(BOX, history(call(NEVER - 1, NEVER - 1, 0, 0, 0, 7), call(0, 0, 1, 7))), [2, 1, 0])

    def test_held_back_by_one_not_done_though_others_are(self):
        told = history(call(10, 11, 0, 0, 0, 7), call(0, 9, 0, 0, 0, 0), call(0, 30, 1, 7), call(0, 30, 0, 0, 0, 0))
        self.assertEqual(order(BOX, told), [4, 1, 3, 2, 0])

    def test_a_value_read_in_turns_has_no_order(self):
        told = history(call(0, 9, 1, 1), call(0, 9, 1, 2),
                       call(10, 11, 0, 0, 0, 1), call(12, 13, 0, 0, 0, 2), call(14, 15, 0, 0, 0, 1))
        self.assertEqual(order(BOX, told), [-33])


if __name__ == "__main__":
    unittest.main()
