"""What holds of the functions whatever they answer."""

import contextlib
import io
import sys
import unittest

from asifbehind import histories
from asifbehind.histories import check, follows, order, proof, since
from telling import BOX, NEVER, ROW, SET, SUM, at_once, call, history, one_by_one

# A function, what is handed in, and what it must give back.
ASKED = (
    (order, (BOX, at_once((0, 0, 0, 4), (2, 3, 4, 1), (1, 3, 0, 0))), [3, 2, 1, 0]),
    (order, (ROW, at_once((1, 0, 0, 8), (0, 7, 0, 0))), [2, 1, 0]),
    (order, (SET, at_once((2, 5, 0, 1), (0, 5, 0, 1))), [2, 1, 0]),
    (order, (SUM, at_once((1, 0, 0, 7), (0, 7, 0, 0))), [2, 1, 0]),
    (order, (BOX, []), [0]),
    (order, (BOX, one_by_one((0, 0, 0, 1))), [-33]),
    (order, (BOX, history(*[call(0, NEVER, 0)] * 9)), [-28]),
    (order, (BOX, history(call(1, 0, 0))), [-22]),
    (order, (4, history(call(0, 1, 0))), [-22]),
    (follows, (BOX, at_once((0, 0, 0, 4), (2, 3, 4, 1), (1, 3, 0, 0)), [2, 1, 0]), [1]),
    (follows, (ROW, at_once((1, 0, 0, 8), (0, 7, 0, 0)), [1, 0]), [1]),
    (follows, (SET, at_once((2, 5, 0, 1), (0, 5, 0, 1)), [0, 1]), [0]),
    (follows, (SUM, at_once((1, 0, 0, 7), (0, 7, 0, 0)), [1, 0]), [1]),
    (follows, (SUM, at_once((1, 0, 0, 7), (0, 7, 0, 0)), [1, 0, 1]), [0]),
    (follows, (BOX, [], []), [1]),
    (follows, (BOX, history(call(0, NEVER, 0)), list(range(255))), [0]),
    (follows, (BOX, history(call(1, 0, 0)), [0]), [-22]),
    (proof, (BOX, at_once((0, 0, 0, 5), (1, 3, 0, 0), (2, 3, 4, 1))), [3, 0, 1, 0, 2, 1, 3, 6, 1, 4]),
    (proof, (ROW, one_by_one((0, 5, 0, 0), (1, 0, 0, 5))), [2, 0, 0, 1, 1, 5]),
    (proof, (SET, one_by_one((0, 5, 0, 1), (2, 5, 0, 0))), [2, 0, 0, 1, 1, 5]),
    (proof, (SUM, one_by_one((0, 5, 0, 0), (1, 0, 0, 6))), [2, 0, 1, 0, 1, 1, 5]),
    (proof, (ROW, one_by_one((1, 0, 0, 1))), [1, 0, 0]),
    (proof, (BOX, []), [-33]),
    (proof, (BOX, history(*[call(0, NEVER, 0)] * 9)), [-28]),
    (proof, (BOX, history(call(1, 0, 0))), [-22]),
    (check, (BOX, at_once((0, 0, 0, 5), (1, 3, 0, 0), (2, 3, 4, 1)), [0, 1, 0, 2, 1, 3, 6, 1, 4]), [1]),
    (check, (ROW, one_by_one((0, 5, 0, 0), (1, 0, 0, 5)), [0, 0, 1, 1, 5]), [1]),
    (check, (SET, one_by_one((0, 5, 0, 1), (2, 5, 0, 0)), [1, 1, 5, 0, 0]), [1]),
    (check, (SUM, one_by_one((0, 5, 0, 0), (1, 0, 0, 6)), [0, 1, 0, 1, 1, 6]), [0]),
    (check, (ROW, one_by_one((1, 0, 0, 1)), []), [0]),
    (check, (BOX, [], [0, 1, 0]), [0]),
    (check, (BOX, history(call(0, NEVER, 0)), [0, 1, 0, 0]), [-71]),
    (check, (SET, history(call(0, NEVER, 0)), [0, 2, 5, 5]), [-71]),
    (check, (ROW, history(call(0, NEVER, 0)), [0, 0] * 257), [-28]),
    (check, (BOX, history(call(1, 0, 0)), [0, 1, 0]), [-22]),
    (since, (BOX, history(call(4, 9, 0, 0, 0, 5), call(0, 3, 1, 3), call(2, 20, 2, 3, 4, 1))), [0, 9]),
    (since, (ROW, one_by_one((0, 5, 0, 0), (1, 0, 0, 5), (1, 0, 0, 0))), [0, 3]),
    (since, (SET, history(call(0, 7, 0, 5, 0, 1), call(0, 6, 0, 5, 0, 1))), [0, 7]),
    (since, (SUM, one_by_one((0, 5, 0, 0), (1, 0, 0, 5))), [-33]),
    (since, (BOX, []), [-33]),
    (since, (BOX, history(*[call(0, 1, 0)] * 9)), [-28]),
    (since, (BOX, history(call(1, 0, 0))), [-22]),
)

CHAIN = one_by_one(*[(0, 0, 0, 0)] * 16)
LONGEST = one_by_one(*[(0, 0, 0, 0)] * 255)
LONG = (
    (order, (BOX, LONGEST), [-22]),
    (order, (BOX, CHAIN), [16] + list(range(16))),
    (follows, (BOX, LONGEST, list(range(255))), [-22]),
    (follows, (BOX, CHAIN, list(range(255))), [0]),
    (follows, (BOX, CHAIN, list(range(16))), [1]),
    (proof, (BOX, LONGEST), [-22]),
    (proof, (BOX, CHAIN), [-33]),
    (check, (BOX, LONGEST, [0, 1, 0] * 8000), [-22]),
    (check, (BOX, CHAIN, [0, 1, 0] * 8000), [-28]),
    (check, (BOX, CHAIN, [0, 1, 0] * 7999 + [0, 1]), [-71]),
    (check, (BOX, CHAIN, [number for done in range(256) for number in (done, 1, 0)]), [0]),
    (check, (ROW, one_by_one((1, 0, 0, 99)), [0, 0, 0, 23996] + [7] * 23996), [1]),
    (since, (BOX, LONGEST), [-22]),
    (since, (BOX, CHAIN), [-33]),
    (since, (SUM, CHAIN), [-33]),
)


class Untouched(list):
    """A list that may be read and not be changed, not for a while either."""

    def refuse(self, *arguments, **named):
        raise AssertionError("what was handed in is changed")

    append = clear = extend = insert = pop = remove = reverse = sort = refuse
    __setitem__ = __delitem__ = __iadd__ = __imul__ = refuse


class Interface(unittest.TestCase):
    def test_what_is_handed_in_is_as_it_was(self):
        for function, told, wanted in ASKED:
            lists = [list(part) for part in told[1:]]
            handed = [Untouched(part) for part in lists]
            self.assertEqual(function(told[0], *handed), wanted)
            self.assertEqual([list(part) for part in handed], lists)

    def test_same_again_whatever_was_asked_between(self):
        for function, told, wanted in ASKED:
            for other, other_told, other_wanted in ASKED:
                self.assertEqual(function(*told), wanted)
                self.assertEqual(other(*other_told), other_wanted)
            self.assertEqual(function(*told), wanted)

    def test_what_is_given_back_is_the_askers_own(self):
        for function, told, wanted in ASKED:
            given = function(*told)
            given.append(99)
            given[0] = 77
            self.assertEqual(function(*told), wanted)
            self.assertIsNot(function(*told), function(*told))

    def test_it_is_a_list_of_whole_numbers(self):
        for function, told, wanted in ASKED:
            given = function(*told)
            self.assertIs(type(given), list)
            self.assertEqual([type(number) for number in given], [int] * len(wanted))

    def test_arguments_by_name(self):
        self.assertEqual(order(kind=BOX, history=[]), [0])
        self.assertEqual(follows(kind=BOX, history=[], order=[]), [1])
        self.assertEqual(proof(kind=BOX, history=[]), [-33])
        self.assertEqual(check(kind=BOX, history=[], proof=[]), [0])
        self.assertEqual(since(kind=BOX, history=[]), [-33])

    def test_nothing_is_printed(self):
        out, err = io.StringIO(), io.StringIO()
        with contextlib.redirect_stdout(out), contextlib.redirect_stderr(err):
            for function, told, wanted in ASKED:
                function(*told)
        self.assertEqual((out.getvalue(), err.getvalue()), ("", ""))

    def test_nothing_is_imported_and_no_name_is_kept(self):
        modules, names = sorted(sys.modules), sorted(vars(histories))
        for function, told, wanted in ASKED:
            function(*told)
        self.assertEqual(sorted(sys.modules), modules)
        self.assertEqual(sorted(vars(histories)), names)

    def test_long_histories_are_gone_through_by_loops(self):
        depth = 0
        frame = sys._getframe()
        while frame is not None:
            depth, frame = depth + 1, frame.f_back
        limit = sys.getrecursionlimit()
        sys.setrecursionlimit(depth + 30)
        try:
            given = [function(*told) for function, told, wanted in LONG]
        finally:
            sys.setrecursionlimit(limit)
        self.assertEqual(given, [wanted for function, told, wanted in LONG])


if __name__ == "__main__":
    unittest.main()
