"""The grounds for a refusal, that it goes ahead of all else, and that places have no bound here."""

import unittest

from asifbehind.histories import follows, order
from telling import BOX, GREATEST, NEVER, ROW, SET, SORTS, SUM, at_once, call, history, one_by_one

READ = (0, 0, 0, 0)
# Some explain what's asked about here, were it right; others would be answered 0.
ORDERS = ([], [0], [0, 1], [0, 0], [GREATEST], list(range(16)), list(range(17)), list(range(255)))


class NotRight(unittest.TestCase):
    def refuses(self, kind, told):
        for numbers in ORDERS:
            self.assertEqual(follows(kind, told, numbers), [-22])

    def takes(self, kind, told):
        for numbers in ORDERS:
            self.assertIn(follows(kind, told, numbers), ([0], [1]))

    def test_kind(self):
        self.takes(3, history(call(0, 1, 1)))
        for kind in (4, 5, 255, GREATEST):
            self.refuses(kind, [])
            self.refuses(kind, history(call(0, 1, 0)))
            self.refuses(kind, history(call(0, NEVER, 0)))

    def test_too_many_calls(self):
        self.takes(BOX, one_by_one(*[READ] * 16))
        for count in (17, 18, 255):
            self.refuses(BOX, one_by_one(*[READ] * count))
            self.refuses(BOX, history(*[call(0, NEVER, 0)] * count))

    def test_none_of_its_kind_of_thing(self):
        for kind, sorts in SORTS.items():
            self.takes(kind, history(call(0, 1, sorts - 1)))
            for what in (sorts, sorts + 1, GREATEST):
                self.refuses(kind, history(call(0, 1, what)))
                self.refuses(kind, history(call(0, NEVER, what)))

    def test_to_before_from(self):
        self.takes(BOX, history(call(1, 1, 0)))
        self.takes(BOX, history(call(NEVER, NEVER, 0)))
        for begin, end in ((1, 0), (GREATEST, 0), (NEVER, NEVER - 1), (100, 99)):
            self.refuses(BOX, history(call(begin, end, 0)))

    def test_whichever_call_it_is_and_whether_it_is_in_the_order_or_not(self):
        for at in range(16):
            for wrong in (call(2 * at + 1, 2 * at, 0), call(2 * at, 2 * at + 1, 3), call(2 * at, NEVER, 3)):
                calls = [call(2 * turn, 2 * turn + 1, 0) for turn in range(16)]
                calls[at] = wrong
                self.refuses(BOX, history(*calls))
                self.assertEqual(follows(BOX, history(*calls), [turn for turn in range(16) if turn != at]), [-22])

    def test_ahead_of_all_that_would_be_answered_0(self):
        false = call(0, 1, 0, 0, 0, 9)
        self.assertEqual(follows(BOX, history(false), [0]), [0])
        self.refuses(4, history(false))
        self.refuses(BOX, history(false, call(2, 3, 3)))
        self.refuses(BOX, history(false, call(3, 2, 0)))
        self.refuses(BOX, history(*[false] * 17))


class NoBoundOnPlaces(unittest.TestCase):
    def test_ended_at_once(self):
        told = at_once(*[READ] * 16)
        self.assertEqual(order(BOX, told), [-28])
        self.assertEqual(follows(BOX, told, list(range(16))), [1])
        self.assertEqual(follows(BOX, told, list(reversed(range(16)))), [1])
        self.assertEqual(follows(BOX, told, list(range(15))), [0])

    def test_none_ended(self):
        for kind in SORTS:
            told = history(*[call(0, NEVER, 0, a) for a in range(16)])
            self.assertEqual(order(kind, told), [-28])
            for numbers in ([], [15], [9, 3], list(range(16)), list(reversed(range(16)))):
                self.assertEqual(follows(kind, told, numbers), [1])

    def test_each_kind_of_thing(self):
        for kind, calls in (
            (BOX, [(1, a, 0, 0) for a in range(15)] + [(0, 0, 0, 14)]),
            (ROW, [(0, a, 0, 0) for a in range(15)] + [(1, 0, 0, 1)]),
            (SET, [(0, a, 0, 1) for a in range(15)] + [(2, 14, 0, 1)]),
            (SUM, [(0, 0, 0, 0) for a in range(15)] + [(1, 0, 0, 0)]),
        ):
            told = at_once(*calls)
            self.assertEqual(order(kind, told), [-28])
            self.assertEqual(follows(kind, told, list(range(16))), [1])
            self.assertEqual(follows(kind, told, list(range(15))), [0])
        self.assertEqual(follows(ROW, at_once(*[(0, a, 0, 0) for a in range(15)] + [(1, 0, 0, 15)]),
                                 list(reversed(range(15))) + [15]), [1])


if __name__ == "__main__":
    unittest.main()
