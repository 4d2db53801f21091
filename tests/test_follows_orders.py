"""What may be told as an order: what it lacks, what it holds, and what the moments allow."""

import unittest

from asifbehind.histories import follows
from telling import BOX, GREATEST, GREATEST_ANSWER, NEVER, ROW, SET, SORTS, SUM, at_once, call, history, one_by_one

READ = (0, 0, 0, 0)


class WhatItHolds(unittest.TestCase):
    def test_lacks_one_that_ended(self):
        told = at_once(READ, READ, READ)
        self.assertEqual(follows(BOX, told, [0, 1, 2]), [1])
        for numbers in ([], [0], [2], [0, 1], [0, 2], [1, 2], [2, 1]):
            self.assertEqual(follows(BOX, told, numbers), [0])

    def test_lacks_one_of_sixteen(self):
        told = one_by_one(*[READ] * 16)
        self.assertEqual(follows(BOX, told, list(range(16))), [1])
        for left_out in range(16):
            self.assertEqual(follows(BOX, told, [number for number in range(16) if number != left_out]), [0])

    def test_holds_a_call_twice(self):
        self.assertEqual(follows(BOX, at_once(READ), [0]), [1])
        self.assertEqual(follows(BOX, at_once(READ), [0, 0]), [0])
        for numbers in ([0, 0], [1, 1], [0, 0, 1], [0, 1, 0], [0, 1, 1], [1, 0, 1], [0, 1, 0, 1]):
            self.assertEqual(follows(BOX, at_once(READ, READ), numbers), [0])

    def test_holds_one_twice_that_would_be_answered_so(self):
        self.assertEqual(follows(ROW, at_once((0, 5, 0, 0), (1, 0, 0, 6)), [0, 1, 0]), [0])
        self.assertEqual(follows(ROW, at_once((0, 5, 0, 0), (1, 0, 0, 6), (1, 0, 0, 6)), [0, 0, 1, 2]), [0])
        self.assertEqual(follows(SUM, history(call(0, NEVER, 0, 4), call(0, 9, 1, 0, 0, 8)), [0, 0, 1]), [0])

    def test_holds_one_twice_that_did_not_end(self):
        self.assertEqual(follows(BOX, history(call(0, NEVER, 0)), [0, 0]), [0])
        self.assertEqual(follows(BOX, history(call(0, 1, 0), call(0, NEVER, 0)), [0, 1, 1]), [0])

    def test_holds_a_number_that_no_call_has(self):
        told = at_once(READ, READ)
        for number in (2, 3, 15, 16, 31, 32, 63, 64, 255, 256, 2 ** 16, 2 ** 31, 2 ** 32 - 2, GREATEST):
            for numbers in ([number], [number, 0, 1], [0, number, 1], [0, 1, number], [number, 1], [0, number]):
                self.assertEqual(follows(BOX, told, numbers), [0])

    def test_the_number_behind_the_last_of_sixteen(self):
        self.assertEqual(follows(BOX, one_by_one(*[READ] * 16), list(range(17))), [0])
        self.assertEqual(follows(BOX, one_by_one(*[READ] * 16), list(range(1, 17))), [0])

    def test_orders_of_255_numbers(self):
        told = at_once(READ, READ)
        for numbers in (list(range(255)), [0] * 255, [0, 1] + [1] * 253, [GREATEST] * 255, [0, 1] + [GREATEST] * 253):
            self.assertEqual(len(numbers), 255)
            self.assertEqual(follows(BOX, told, numbers), [0])
            self.assertEqual(follows(BOX, [], numbers), [0])
            self.assertEqual(follows(BOX, history(call(0, NEVER, 0)), numbers), [0])

    def test_no_call(self):
        for kind in SORTS:
            self.assertEqual(follows(kind, [], []), [1])
            for numbers in ([0], [1], [0, 0], [GREATEST], list(range(255))):
                self.assertEqual(follows(kind, [], numbers), [0])

    def test_there_need_be_no_first_order_to_be_told(self):
        told = at_once(READ, READ, READ)
        for numbers in ([0, 1, 2], [0, 2, 1], [1, 0, 2], [1, 2, 0], [2, 0, 1], [2, 1, 0]):
            self.assertEqual(follows(BOX, told, numbers), [1])


class Moments(unittest.TestCase):
    """Two reads that any order would explain: only the moments tell which may stand behind which."""

    def in_turns(self, first, second):
        told = history(call(first[0], first[1], 0), call(second[0], second[1], 0))
        return follows(BOX, told, [0, 1]) + follows(BOX, told, [1, 0])

    def test_ended_before_the_other_began(self):
        self.assertEqual(self.in_turns((0, 4), (5, 9)), [1, 0])
        self.assertEqual(self.in_turns((5, 9), (0, 4)), [0, 1])
        self.assertEqual(self.in_turns((0, 0), (NEVER - 1, NEVER - 1)), [1, 0])
        self.assertEqual(self.in_turns((NEVER - 1, NEVER - 1), (0, NEVER - 2)), [0, 1])

    def test_ended_at_the_very_moment_at_which_the_other_began(self):
        self.assertEqual(self.in_turns((0, 5), (5, 9)), [1, 1])
        self.assertEqual(self.in_turns((5, 9), (0, 5)), [1, 1])
        self.assertEqual(self.in_turns((5, 5), (5, 9)), [1, 1])

    def test_ended_later_than_the_other_began(self):
        self.assertEqual(self.in_turns((0, 6), (5, 9)), [1, 1])
        self.assertEqual(self.in_turns((0, 9), (5, 6)), [1, 1])

    def test_all_within_one_moment(self):
        for moment in (0, 7, NEVER - 1):
            self.assertEqual(self.in_turns((moment, moment), (moment, moment)), [1, 1])

    def test_not_just_the_one_that_stands_next(self):
        told = history(call(0, 1, 0), call(0, 9, 0), call(2, 9, 0))
        explained = [[0, 1, 2], [0, 2, 1], [1, 0, 2]]
        for numbers in ([0, 1, 2], [0, 2, 1], [1, 0, 2], [1, 2, 0], [2, 0, 1], [2, 1, 0]):
            self.assertEqual(follows(BOX, told, numbers), [int(numbers in explained)])

    def test_sixteen_one_behind_another(self):
        told = one_by_one(*[READ] * 16)
        for at in range(15):
            turned = list(range(16))
            turned[at], turned[at + 1] = at + 1, at
            self.assertEqual(follows(BOX, told, turned), [0])
        self.assertEqual(follows(BOX, told, list(reversed(range(16)))), [0])

    def test_answers_and_moments_are_both_asked_for(self):
        told = history(call(0, 4, 0, 0, 0, 7), call(5, 9, 1, 7))
        self.assertEqual(follows(BOX, told, [0, 1]), [0])
        self.assertEqual(follows(BOX, told, [1, 0]), [0])


class NotEnded(unittest.TestCase):
    def test_in_it_or_not(self):
        told = history(call(0, 9, 0), call(0, NEVER, 0), call(0, NEVER, 0))
        for numbers in ([0], [0, 1], [1, 0], [2, 0], [0, 2], [0, 1, 2], [2, 0, 1], [2, 1, 0]):
            self.assertEqual(follows(BOX, told, numbers), [1])
        for numbers in ([], [1], [2], [1, 2], [2, 1]):
            self.assertEqual(follows(BOX, told, numbers), [0])

    def test_none_ended(self):
        told = history(call(0, NEVER, 1, 5), call(8, NEVER, 0), call(NEVER, NEVER, 2))
        for numbers in ([], [0], [1], [2], [2, 0], [1, 0], [2, 1, 0], [0, 1, 2]):
            self.assertEqual(follows(BOX, told, numbers), [1])

    def test_its_answer_does_not_matter(self):
        for answered in (0, 1, 2, 8, GREATEST, GREATEST_ANSWER):
            for kind, sorts in SORTS.items():
                for what in range(sorts):
                    told = history(call(0, NEVER, what, 1, 2, answered))
                    self.assertEqual(follows(kind, told, [0]), [1])
                    self.assertEqual(follows(kind, told, []), [1])

    def test_the_answer_of_one_that_ended_at_the_last_moment_matters(self):
        self.assertEqual(follows(BOX, history(call(0, NEVER - 1, 0, 0, 0, 7)), [0]), [0])
        self.assertEqual(follows(BOX, history(call(0, NEVER - 1, 0, 0, 0, 0)), [0]), [1])
        self.assertEqual(follows(BOX, history(call(0, NEVER - 1, 0, 0, 0, 0)), []), [0])

    def test_what_it_does_is_done(self):
        for kind, ended, other in (
            (BOX, call(0, 9, 0, 0, 0, 7), call(0, NEVER, 1, 7, 0, 99)),
            (ROW, call(0, 9, 1, 0, 0, 8), call(0, NEVER, 0, 7, 0, 99)),
            (SET, call(0, 9, 2, 7, 0, 1), call(0, NEVER, 0, 7, 0, 99)),
            (SUM, call(0, 9, 1, 0, 0, 7), call(0, NEVER, 0, 7, 0, 99)),
        ):
            told = history(ended, other)
            self.assertEqual(follows(kind, told, [1, 0]), [1])
            self.assertEqual(follows(kind, told, [0, 1]), [0])
            self.assertEqual(follows(kind, told, [0]), [0])
            self.assertEqual(follows(kind, told, [1]), [0])

    def test_what_it_does_may_spoil_an_answer(self):
        told = history(call(0, 9, 0, 0, 0, 0), call(0, NEVER, 1, 7))
        self.assertEqual(follows(BOX, told, [0]), [1])
        self.assertEqual(follows(BOX, told, [0, 1]), [1])
        self.assertEqual(follows(BOX, told, [1, 0]), [0])

    def test_not_before_one_that_ended_before_it_began(self):
        told = history(call(6, NEVER, 0), call(0, 5, 0))
        self.assertEqual(follows(BOX, told, [1, 0]), [1])
        self.assertEqual(follows(BOX, told, [0, 1]), [0])
        self.assertEqual(follows(BOX, history(call(5, NEVER, 0), call(0, 5, 0)), [0, 1]), [1])
        self.assertEqual(follows(BOX, history(call(NEVER, NEVER, 0), call(0, NEVER - 1, 0)), [0, 1]), [0])
        self.assertEqual(follows(BOX, history(call(NEVER, NEVER, 0), call(0, NEVER - 1, 0)), [1, 0]), [1])

    def test_may_stand_behind_all_that_began_later(self):
        self.assertEqual(follows(BOX, history(call(0, NEVER, 0), call(NEVER - 1, NEVER - 1, 0)), [1, 0]), [1])
        self.assertEqual(follows(BOX, history(call(0, NEVER, 0), call(NEVER, NEVER, 0)), [1, 0]), [1])


if __name__ == "__main__":
    unittest.main()
