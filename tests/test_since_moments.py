"""Since which moment no order explains what had been seen."""

import unittest

from asifbehind.histories import order, since
from telling import (BOX, ROW, SET, SUM, SORTS, GREATEST, GREATEST_ANSWER, NEVER, at_once, call, history, one_by_one)

# An answer that no call here can have, whatever is done before it.
FALSE = 99
# Of each kind of thing a call that changes nothing and is rightly answered 0 at first.
LOOK = {BOX: 0, ROW: 1, SET: 2, SUM: 1}


class EachKindOfThing(unittest.TestCase):
    def test_box(self):
        self.assertEqual(since(BOX, one_by_one((1, 7, 0, 0), (0, 0, 0, 8))), [0, 3])
        self.assertEqual(since(BOX, one_by_one((1, 7, 0, 0), (0, 0, 0, 7))), [-33])
        self.assertEqual(since(BOX, one_by_one((2, 0, 4, 1), (2, 0, 5, 0), (2, 4, 0, 1), (0, 0, 0, 4))), [0, 7])
        self.assertEqual(since(BOX, one_by_one((2, 0, 4, 1), (2, 0, 5, 0), (2, 4, 0, 1), (0, 0, 0, 0))), [-33])

    def test_row(self):
        self.assertEqual(since(ROW, one_by_one((0, 5, 0, 0), (0, 4, 0, 0), (1, 0, 0, 5))), [0, 5])
        self.assertEqual(since(ROW, one_by_one((0, 5, 0, 0), (0, 4, 0, 0), (1, 0, 0, 6), (1, 0, 0, 5))), [-33])
        self.assertEqual(since(ROW, one_by_one((0, GREATEST, 0, 0), (1, 0, 0, 2 ** 32), (1, 0, 0, 1))), [0, 5])

    def test_set(self):
        self.assertEqual(since(SET, one_by_one((0, 5, 0, 1), (0, 5, 0, 1))), [0, 3])
        self.assertEqual(since(SET, one_by_one((0, 5, 0, 1), (1, 5, 0, 1), (2, 5, 0, 1))), [0, 5])
        self.assertEqual(since(SET, one_by_one((0, 5, 0, 1), (0, 5, 0, 0), (1, 5, 0, 1), (2, 5, 0, 0))), [-33])

    def test_sum(self):
        self.assertEqual(since(SUM, one_by_one((0, GREATEST, 0, 0), (0, 2, 0, GREATEST), (1, 0, 0, 2))), [0, 5])
        self.assertEqual(since(SUM, one_by_one((0, GREATEST, 0, 0), (0, 2, 0, GREATEST), (1, 0, 0, 1))), [-33])

    def test_whatever_it_is_told_first(self):
        # The same calls in another row: numbers of calls don't matter to moments.
        told = [call(0, 1, 1, 7), call(2, 3, 0, 0, 0, 8), call(4, 5, 0, 0, 0, 7)]
        for first, second, third in ((0, 1, 2), (2, 1, 0), (1, 2, 0), (1, 0, 2)):
            self.assertEqual(since(BOX, history(told[first], told[second], told[third])), [0, 3])


class WhichMoment(unittest.TestCase):
    def test_no_call(self):
        for kind in SORTS:
            self.assertEqual(since(kind, []), [-33])

    def test_none_ended(self):
        for kind in SORTS:
            for what in range(SORTS[kind]):
                self.assertEqual(since(kind, history(call(0, NEVER, what, 0, 0, FALSE))), [-33])
                self.assertEqual(since(kind, history(*[call(3, NEVER, what, a, 0, FALSE) for a in range(5)])), [-33])

    def test_first_call(self):
        for kind in SORTS:
            for what in range(SORTS[kind]):
                for begin, end in ((0, 0), (0, 1), (5, 5), (5, 70), (0, NEVER - 1), (NEVER - 1, NEVER - 1)):
                    self.assertEqual(since(kind, history(call(begin, end, what, 0, 0, FALSE))), [0, end])

    def test_each_moment(self):
        for kind, what in LOOK.items():
            for at in range(16):
                calls = [(what, 0, 0, 0)] * 16
                self.assertEqual(since(kind, one_by_one(*calls)), [-33])
                calls[at] = (what, 0, 0, FALSE)
                self.assertEqual(since(kind, one_by_one(*calls)), [0, 2 * at + 1])

    def test_first_of_several(self):
        for first in range(16):
            for second in range(first, 16):
                calls = [(0, 0, 0, FALSE if at in (first, second) else 0) for at in range(16)]
                self.assertEqual(since(BOX, one_by_one(*calls)), [0, 2 * first + 1])

    def test_not_the_last_one_though_the_rest_is_right(self):
        told = one_by_one((1, 3, 0, 0), (0, 0, 0, 4), (1, 4, 0, 0), (0, 0, 0, 4), (2, 4, 5, 1))
        self.assertEqual(since(BOX, told), [0, 3])

    def test_a_later_call_does_not_mend_it(self):
        # 7 is read till 5; it is written from 6 on.
        self.assertEqual(since(BOX, history(call(0, 5, 0, 0, 0, 7), call(6, 9, 1, 7))), [0, 5])
        self.assertEqual(since(BOX, history(call(0, 5, 0, 0, 0, 7), call(6, NEVER, 1, 7))), [0, 5])

    def test_the_moment_at_which_it_shows(self):
        # Either writer may have been last: so each reader is right by itself, and not beside the other.
        writers = call(0, 3, 1, 2), call(1, 3, 1, 4)
        self.assertEqual(since(BOX, history(*writers, call(4, 5, 0, 0, 0, 2), call(4, 6, 0, 0, 0, 4))), [0, 6])
        self.assertEqual(since(BOX, history(*writers, call(4, 20, 0, 0, 0, 2), call(5, 6, 0, 0, 0, 4))), [0, 20])
        self.assertEqual(since(BOX, history(*writers, call(4, 20, 0, 0, 0, 4), call(5, 6, 0, 0, 0, 4))), [-33])
        self.assertEqual(since(BOX, history(*writers, call(4, 20, 0, 0, 0, 6), call(5, 6, 0, 0, 0, 4))), [0, 20])

    def test_far_moments(self):
        told = history(call(0, 2 ** 31, 0), call(0, 2 ** 31 + 1, 0, 0, 0, FALSE), call(0, NEVER - 1, 0, 0, 0, FALSE))
        self.assertEqual(since(BOX, told), [0, 2 ** 31 + 1])

    def test_by_their_size(self):
        told = history(call(0, 10, 0, 0, 0, FALSE), call(0, 9, 0, 0, 0, FALSE), call(0, 100, 0, 0, 0, FALSE))
        self.assertEqual(since(BOX, told), [0, 9])


class SeveralAtOneMoment(unittest.TestCase):
    def test_all_of_them_count(self):
        self.assertEqual(since(SUM, at_once((0, 3, 0, 0), (0, 4, 0, 0))), [0, 1])
        self.assertEqual(since(SUM, at_once((0, 3, 0, 0), (0, 4, 0, 3))), [-33])
        self.assertEqual(since(BOX, at_once((0, 0, 0, 0), (0, 0, 0, FALSE))), [0, 1])
        self.assertEqual(since(BOX, at_once((0, 0, 0, FALSE), (0, 0, 0, 0))), [0, 1])

    def test_one_explains_another(self):
        self.assertEqual(since(BOX, at_once((0, 0, 0, 7), (1, 7, 0, 0))), [-33])
        self.assertEqual(since(ROW, at_once((1, 0, 0, 8), (0, 7, 0, 0))), [-33])
        self.assertEqual(since(SET, at_once((2, 7, 0, 1), (0, 7, 0, 1))), [-33])
        self.assertEqual(since(SUM, at_once((1, 0, 0, 7), (0, 7, 0, 0))), [-33])

    def test_ahead_of_a_later_moment(self):
        told = history(call(0, 5, 0), call(1, 5, 0, 0, 0, FALSE), call(2, 5, 0), call(6, 7, 0, 0, 0, FALSE))
        self.assertEqual(since(BOX, told), [0, 5])

    def test_sixteen(self):
        self.assertEqual(since(SUM, history(*[call(0, 5, 0, 1, 0, FALSE)] * 6, *[call(4, 5, 1)] * 2)), [0, 5])
        self.assertEqual(since(BOX, history(*[call(6, 6, 0, 0, 0, FALSE)] * 8, *[call(5, 5, 0)] * 8)), [0, 6])


class BegunByThen(unittest.TestCase):
    def test_at_that_very_moment(self):
        for end in (5, 6, 9, NEVER):
            for begin in range(6):
                if begin <= end:
                    told = history(call(0, 5, 0, 0, 0, 7), call(begin, end, 1, 7))
                    self.assertEqual(since(BOX, told), [-33], (begin, end))

    def test_one_moment_later(self):
        for end in (6, 9, NEVER):
            self.assertEqual(since(BOX, history(call(0, 5, 0, 0, 0, 7), call(6, end, 1, 7))), [0, 5])
            self.assertEqual(since(BOX, history(call(6, end, 1, 7), call(0, 5, 0, 0, 0, 7))), [0, 5])

    def test_each_kind_of_thing(self):
        for kind, look, change in (
            (ROW, (1, 0, 0, 8), (0, 7, 0, 0)),
            (SET, (2, 7, 0, 1), (0, 7, 0, 1)),
            (SUM, (1, 0, 0, 7), (0, 7, 0, 0)),
        ):
            self.assertEqual(since(kind, history((2, 5) + look, (5, 8) + change)), [-33])
            self.assertEqual(since(kind, history((2, 5) + look, (6, 8) + change)), [0, 5])

    def test_what_had_not_begun_does_not_count(self):
        told = history(call(0, 5, 0), call(6, 9, 0, 0, 0, FALSE))
        self.assertEqual(since(BOX, told), [0, 9])
        told = history(call(6, NEVER, 0, 0, 0, FALSE), call(0, 5, 0))
        self.assertEqual(since(BOX, told), [-33])


class NotEndedByThen(unittest.TestCase):
    def test_may_have_been_done(self):
        self.assertEqual(since(BOX, history(call(0, 20, 1, 7), call(1, 3, 0, 0, 0, 7))), [-33])
        self.assertEqual(since(ROW, history(call(0, 20, 0, 7), call(1, 3, 1, 0, 0, 8))), [-33])

    def test_may_not_have_been_done(self):
        self.assertEqual(since(BOX, history(call(0, 20, 1, 7), call(1, 3, 0))), [-33])
        self.assertEqual(since(BOX, history(call(0, 20, 1, 7), call(1, 3, 0), call(4, 5, 0, 0, 0, 7))), [-33])

    def test_whatever_they_were_answered(self):
        for answered in (1, 7, FALSE, GREATEST_ANSWER):
            told = history(call(0, 20, 1, 7, 0, answered), call(1, 3, 0, 0, 0, 7), call(4, 5, 0, 0, 0, 7))
            self.assertEqual(since(BOX, told), [0, 20])
            told = history(call(0, NEVER, 1, 7, 0, answered), call(1, 3, 0, 0, 0, 7), call(4, 5, 0, 0, 0, 7))
            self.assertEqual(since(BOX, told), [-33])
            told = history(call(0, 20, 0, 7, 0, answered), call(1, 3, 1, 0, 0, 8))
            self.assertEqual(since(ROW, told), [0, 20])

    def test_until_the_moment_at_which_they_ended(self):
        # Each of the two found 0, which can't be beside the other; that shows only when both have ended.
        told = history(call(0, 8, 0, 7, 0, 0), call(0, 9, 0, 7, 0, 0), call(1, 3, 1, 0, 0, 7))
        self.assertEqual(since(SUM, told), [0, 9])
        told = history(call(0, 9, 0, 7, 0, 0), call(0, 8, 0, 7, 0, 0), call(1, 3, 1, 0, 0, 14))
        self.assertEqual(since(SUM, told), [0, 9])

    def test_a_row_from_which_more_went_out_than_came_in(self):
        told = history(call(0, 30, 0, 4), call(1, 5, 1, 0, 0, 5), call(2, 7, 1, 0, 0, 5), call(8, 9, 1))
        self.assertEqual(since(ROW, told), [0, 7])
        told = history(call(0, 30, 0, 4), call(1, 5, 1, 0, 0, 5), call(2, 7, 1), call(8, 9, 1, 0, 0, 1))
        self.assertEqual(since(ROW, told), [0, 9])


class BesideOrder(unittest.TestCase):
    def test_one_that_began_behind_every_end_is_never_seen(self):
        # Places with those that didn't end are too many, but no moment comes at which they are seen.
        late = [call(2, NEVER, 0)] * 15
        self.assertEqual(order(BOX, history(call(0, 1, 0), *late)), [-28])
        self.assertEqual(since(BOX, history(call(0, 1, 0), *late)), [-33])
        self.assertEqual(since(BOX, history(call(0, 1, 0, 0, 0, FALSE), *late)), [0, 1])
        self.assertEqual(since(BOX, history(call(0, 2, 0), *late)), [-28])


if __name__ == "__main__":
    unittest.main()
