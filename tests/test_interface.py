"""What holds of the functions whatever they answer."""

import contextlib
import io
import sys
import unittest

from asifbehind import histories
from asifbehind.histories import order
from telling import BOX, NEVER, ROW, SET, SUM, at_once, call, history, one_by_one

ASKED = (
    (BOX, at_once((0, 0, 0, 4), (2, 3, 4, 1), (1, 3, 0, 0)), [3, 2, 1, 0]),
    (ROW, at_once((1, 0, 0, 8), (0, 7, 0, 0)), [2, 1, 0]),
    (SET, at_once((2, 5, 0, 1), (0, 5, 0, 1)), [2, 1, 0]),
    (SUM, at_once((1, 0, 0, 7), (0, 7, 0, 0)), [2, 1, 0]),
    (BOX, [], [0]),
    (BOX, one_by_one((0, 0, 0, 1)), [-33]),
    (BOX, history(*[call(0, NEVER, 0)] * 9), [-28]),
    (BOX, history(call(1, 0, 0)), [-22]),
    (4, history(call(0, 1, 0)), [-22]),
)


class Untouched(list):
    """A list that may be read and not be changed, not for a while either."""

    def refuse(self, *arguments, **named):
        raise AssertionError("what was handed in is changed")

    append = clear = extend = insert = pop = remove = reverse = sort = refuse
    __setitem__ = __delitem__ = __iadd__ = __imul__ = refuse


class Interface(unittest.TestCase):
    def test_what_is_handed_in_is_as_it_was(self):
        for kind, told, wanted in ASKED:
            handed = Untouched(told)
            self.assertEqual(order(kind, handed), wanted)
            self.assertEqual(list(handed), told)

    def test_same_again_whatever_was_asked_between(self):
        for kind, told, wanted in ASKED:
            for other_kind, other, other_wanted in ASKED:
                self.assertEqual(order(kind, told), wanted)
                self.assertEqual(order(other_kind, other), other_wanted)
            self.assertEqual(order(kind, told), wanted)

    def test_what_is_given_back_is_the_askers_own(self):
        for kind, told, wanted in ASKED:
            given = order(kind, told)
            given.append(99)
            given[0] = 77
            self.assertEqual(order(kind, told), wanted)
            self.assertIsNot(order(kind, told), order(kind, told))

    def test_it_is_a_list_of_whole_numbers(self):
        for kind, told, wanted in ASKED:
            given = order(kind, told)
            self.assertIs(type(given), list)
            self.assertEqual([type(number) for number in given], [int] * len(wanted))

    def test_arguments_by_name(self):
        self.assertEqual(order(kind=BOX, history=[]), [0])

    def test_nothing_is_printed(self):
        out, err = io.StringIO(), io.StringIO()
        with contextlib.redirect_stdout(out), contextlib.redirect_stderr(err):
            for kind, told, wanted in ASKED:
                order(kind, told)
        self.assertEqual((out.getvalue(), err.getvalue()), ("", ""))

    def test_nothing_is_imported_and_no_name_is_kept(self):
        modules, names = sorted(sys.modules), sorted(vars(histories))
        for kind, told, wanted in ASKED:
            order(kind, told)
        self.assertEqual(sorted(sys.modules), modules)
        self.assertEqual(sorted(vars(histories)), names)

    def test_long_histories_are_gone_through_by_loops(self):
        depth = 0
        frame = sys._getframe()
        while frame is not None:
            depth, frame = depth + 1, frame.f_back
        limit = sys.getrecursionlimit()
        sys.setrecursionlimit(depth + 30)
        try:
            longest = order(BOX, one_by_one(*[(0, 0, 0, 0)] * 255))
            chain = order(BOX, one_by_one(*[(0, 0, 0, 0)] * 16))
        finally:
            sys.setrecursionlimit(limit)
        self.assertEqual(longest, [-22])
        self.assertEqual(chain, [16] + list(range(16)))


if __name__ == "__main__":
    unittest.main()
