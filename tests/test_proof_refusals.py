"""The refusals, and which of several is answered."""

import unittest

from asifbehind.histories import order, proof
from telling import BOX, GREATEST, NEVER, ROW, SET, SORTS, SUM, at_once, blocks, call, history, one_by_one

READ = (0, 0, 0, 0)
FALSE = call(9, 9, 0, 0, 0, 99)


class SomeOrderExplains(unittest.TestCase):
    def test_no_call(self):
        for kind in SORTS:
            self.assertEqual(proof(kind, []), [-33])

    def test_each_kind_of_thing(self):
        self.assertEqual(proof(BOX, at_once((0, 0, 0, 4), (2, 3, 4, 1), (1, 3, 0, 0))), [-33])
        self.assertEqual(proof(ROW, at_once((1, 0, 0, 3), (1, 0, 0, 2), (0, 1, 0, 0), (0, 2, 0, 0))), [-33])
        self.assertEqual(proof(SET, at_once((2, 5, 0, 0), (1, 5, 0, 1), (2, 5, 0, 1), (0, 5, 0, 1))), [-33])
        self.assertEqual(proof(SUM, at_once((1, 0, 0, 7), (0, 3, 0, 4), (0, 4, 0, 0))), [-33])

    def test_sixteen_calls(self):
        self.assertEqual(proof(BOX, one_by_one(*[READ] * 16)), [-33])
        self.assertEqual(proof(BOX, one_by_one(*[READ] * 15 + [(0, 0, 0, 1)]))[0], 16)

    def test_none_ended(self):
        self.assertEqual(proof(BOX, history(call(0, NEVER, 0, 0, 0, 99))), [-33])
        self.assertEqual(proof(BOX, history(*[call(0, NEVER, 1, a) for a in range(4)])), [-33])

    def test_by_one_that_did_not_end(self):
        self.assertEqual(proof(BOX, history(call(0, 9, 0, 0, 0, 7), call(9, NEVER, 1, 7))), [-33])
        self.assertEqual(proof(BOX, history(call(0, 9, 0, 0, 0, 7), call(10, NEVER, 1, 7)))[0], 1)

    def test_where_only_one_way_of_many_leads_there(self):
        calls = [(0, 1, 0, at) for at in range(1, 16)]
        self.assertEqual(proof(SUM, at_once(*calls, (0, 1, 0, 0))), [-33])
        told = history(call(0, 9, 0, 7), call(0, 9, 1, 0, 0, 6), call(0, 9, 0, 5), call(10, 11, 1, 0, 0, 8))
        self.assertEqual(proof(ROW, told), [-33])

    def test_just_256_places(self):
        self.assertEqual(proof(BOX, history(*blocks(8))), [-33])
        self.assertEqual(proof(BOX, history(*blocks(7, 7, 1))), [-33])
        self.assertEqual(proof(BOX, history(*[call(0, NEVER, 0)] * 8)), [-33])


class TooMany(unittest.TestCase):
    def test_256_are_not(self):
        self.assertEqual(proof(BOX, history(*blocks(8), FALSE))[0], 256)
        self.assertEqual(proof(BOX, history(*blocks(7, 7, 1), FALSE))[0], 256)

    def test_257_are(self):
        self.assertEqual(proof(BOX, history(*blocks(8, 1), FALSE)), [-28])
        self.assertEqual(proof(BOX, history(*blocks(8), call(9, NEVER, 0), FALSE)), [-28])

    def test_far_more_are(self):
        self.assertEqual(proof(BOX, history(*blocks(15), FALSE)), [-28])
        comes_in = [call(0, NEVER, 0, a) for a in range(15)]
        self.assertEqual(proof(ROW, history(*comes_in, call(0, 9, 1, 0, 0, 99))), [-28])

    def test_ahead_of_some_order(self):
        self.assertEqual(proof(BOX, history(*blocks(8, 1))), [-28])
        self.assertEqual(proof(BOX, history(*blocks(9))), [-28])
        self.assertEqual(proof(BOX, history(*[call(0, NEVER, 0)] * 9)), [-28])
        self.assertEqual(proof(BOX, at_once(*[READ] * 16)), [-28])

    def test_what_the_thing_holds_makes_another_place(self):
        # 5 at once, all different: 1 + 5 + 20 + 60 + 120 + 120 rows; of a set only which calls are done counts.
        for kind, what, answered, four, five in ((ROW, 0, 0, 65, -28), (SET, 0, 1, 16, 32), (BOX, 1, 0, 33, 81)):
            calls = [call(0, 1, what, a, 0, answered) for a in range(1, 6)]
            self.assertEqual(proof(kind, history(*calls[:4], FALSE))[0], four)
            self.assertEqual(proof(kind, history(*calls, FALSE))[0], five)


class NotRight(unittest.TestCase):
    # Were they right: one that is -33, one that is a list of places, one that is -28.
    AROUND = ((), (FALSE,), tuple([call(0, NEVER, 0)] * 15))

    def test_what_stands_around_is_answered_in_each_way(self):
        self.assertEqual([proof(BOX, history(*calls)) for calls in self.AROUND], [[-33], [1, 0, 1, 0], [-28]])

    def test_kind(self):
        self.assertEqual(proof(3, history(call(0, 1, 1))), [-33])
        for kind in (4, 5, 255, GREATEST):
            for calls in self.AROUND:
                self.assertEqual(proof(kind, history(*calls)), [-22])

    def test_too_many_calls(self):
        for count in (17, 18, 255):
            for lone in (call(0, 1, 0), call(0, NEVER, 0), FALSE):
                self.assertEqual(proof(BOX, history(*[lone] * count)), [-22])
            self.assertEqual(proof(BOX, one_by_one(*[READ] * count)), [-22])

    def test_none_of_its_kind_of_thing(self):
        for kind, sorts in SORTS.items():
            self.assertNotEqual(proof(kind, history(call(0, 1, sorts - 1))), [-22])
            for what in (sorts, sorts + 1, GREATEST):
                for calls in self.AROUND:
                    self.assertEqual(proof(kind, history(*calls, call(0, 1, what))), [-22])
                    self.assertEqual(proof(kind, history(call(0, NEVER, what), *calls)), [-22])

    def test_to_before_from(self):
        self.assertEqual(proof(BOX, history(call(1, 1, 0))), [-33])
        self.assertEqual(proof(BOX, history(call(NEVER, NEVER, 0))), [-33])
        for begin, end in ((1, 0), (GREATEST, 0), (NEVER, NEVER - 1), (100, 99)):
            for calls in self.AROUND:
                self.assertEqual(proof(BOX, history(*calls, call(begin, end, 0))), [-22])
                self.assertEqual(proof(BOX, history(call(begin, end, 0), *calls)), [-22])

    def test_whichever_call_it_is(self):
        for at in range(16):
            for wrong in (call(2 * at + 1, 2 * at, 0), call(2 * at, 2 * at + 1, 3)):
                calls = [call(2 * turn, 2 * turn + 1, 0) for turn in range(16)]
                calls[at] = wrong
                self.assertEqual(proof(BOX, history(*calls)), [-22])


class BesideOrder(unittest.TestCase):
    def test_one_of_the_two_is_told(self):
        for calls in ([], [FALSE], blocks(8), blocks(8) + [FALSE], blocks(3, 2) + [FALSE]):
            told = history(*calls)
            self.assertEqual(sorted([order(BOX, told)[0] >= 0, proof(BOX, told)[0] >= 0]), [False, True])


if __name__ == "__main__":
    unittest.main()
