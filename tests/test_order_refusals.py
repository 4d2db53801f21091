"""The edges, the wrong inputs, and which of several refusals is answered."""

import unittest

from asifbehind.histories import order
from telling import (BOX, ROW, SET, SUM, SORTS, GREATEST, GREATEST_ANSWER, NEVER, at_once, blocks, call, history,
                     one_by_one)

READ = (0, 0, 0, 0)


class Edges(unittest.TestCase):
    def test_no_call(self):
        for kind in SORTS:
            self.assertEqual(order(kind, []), [0])

    def test_sixteen_calls(self):
        for kind in SORTS:
            lone = {BOX: READ, ROW: (1, 0, 0, 0), SET: (2, 0, 0, 0), SUM: (1, 0, 0, 0)}[kind]
            self.assertEqual(order(kind, one_by_one(*[lone] * 16)), [16] + list(range(16)))

    def test_sixteenth_call_counts(self):
        self.assertEqual(order(BOX, one_by_one(*[READ] * 15 + [(0, 0, 0, 1)])), [-33])

    def test_to_equal_to_from(self):
        for moment in (0, 1, NEVER - 1):
            self.assertEqual(order(BOX, history(call(moment, moment, 0))), [1, 0])
        self.assertEqual(order(BOX, history(call(NEVER, NEVER, 0))), [0])

    def test_answered_at_its_greatest(self):
        for kind in SORTS:
            for what in range(SORTS[kind]):
                self.assertEqual(order(kind, history(call(0, 1, what, 0, 0, GREATEST_ANSWER))), [-33])
                self.assertEqual(order(kind, history(call(0, NEVER, what, 0, 0, GREATEST_ANSWER))), [0])

    def test_answer_is_not_taken_modulo_anything(self):
        self.assertEqual(order(BOX, one_by_one((0, 0, 0, 2 ** 32))), [-33])
        self.assertEqual(order(ROW, one_by_one((0, GREATEST, 0, 0), (1, 0, 0, 0))), [-33])
        self.assertEqual(order(SUM, one_by_one((0, GREATEST, 0, 0), (0, 1, 0, GREATEST), (1, 0, 0, 2 ** 32))), [-33])

    def test_a_and_b_at_their_greatest(self):
        self.assertEqual(order(BOX, one_by_one((1, GREATEST, GREATEST, 0), (2, GREATEST, GREATEST, 1))), [2, 0, 1])
        self.assertEqual(order(ROW, one_by_one((0, GREATEST, GREATEST, 0), (1, GREATEST, GREATEST, 2 ** 32))), [2, 0, 1])
        self.assertEqual(order(SET, one_by_one((0, GREATEST, GREATEST, 1), (1, GREATEST, GREATEST, 1))), [2, 0, 1])
        self.assertEqual(order(SUM, one_by_one((0, GREATEST, GREATEST, 0), (1, GREATEST, GREATEST, GREATEST))), [2, 0, 1])


class NotRight(unittest.TestCase):
    def test_kind(self):
        self.assertEqual(order(3, history(call(0, 1, 1))), [1, 0])
        for kind in (4, 5, 255, GREATEST):
            self.assertEqual(order(kind, history(call(0, 1, 1))), [-22])
            self.assertEqual(order(kind, []), [-22])

    def test_too_many_calls(self):
        for count in (17, 18, 255):
            self.assertEqual(order(BOX, one_by_one(*[READ] * count)), [-22])

    def test_last_sort_of_call_and_the_one_above_it(self):
        for kind, sorts in SORTS.items():
            self.assertIn(order(kind, history(call(0, 1, sorts - 1))), ([1, 0], [-33]))
            for what in (sorts, sorts + 1, GREATEST):
                self.assertEqual(order(kind, history(call(0, 1, what))), [-22])
                self.assertEqual(order(kind, history(call(0, NEVER, what))), [-22])

    def test_to_before_from(self):
        for begin, end in ((1, 0), (GREATEST, 0), (NEVER, NEVER - 1), (100, 99)):
            self.assertEqual(order(BOX, history(call(begin, end, 0))), [-22])

    def test_whichever_call_it_is(self):
        for at in range(16):
            for wrong in (call(2 * at + 1, 2 * at, 0), call(2 * at, 2 * at + 1, 3)):
                calls = [call(2 * turn, 2 * turn + 1, 0) for turn in range(16)]
                calls[at] = wrong
                self.assertEqual(order(BOX, history(*calls)), [-22])

    def test_ahead_of_too_many_places(self):
        many = [call(0, NEVER, 0)] * 15
        self.assertEqual(order(BOX, history(*many)), [-28])
        self.assertEqual(order(4, history(*many)), [-22])
        self.assertEqual(order(BOX, history(*many, call(0, NEVER, 3))), [-22])
        self.assertEqual(order(BOX, history(*many, call(1, 0, 0))), [-22])
        self.assertEqual(order(BOX, history(*many, *many)), [-22])

    def test_ahead_of_none(self):
        false = call(0, 1, 0, 0, 0, 9)
        self.assertEqual(order(BOX, history(false)), [-33])
        self.assertEqual(order(4, history(false)), [-22])
        self.assertEqual(order(BOX, history(false, call(2, 3, 3))), [-22])
        self.assertEqual(order(BOX, history(false, call(3, 2, 0))), [-22])
        self.assertEqual(order(BOX, history(*[false] * 17)), [-22])


class TooMany(unittest.TestCase):
    def test_just_256_places(self):
        self.assertEqual(order(BOX, history(*blocks(8))), [8] + list(range(8)))
        self.assertEqual(order(BOX, history(*blocks(7, 7, 1))), [15] + list(range(15)))

    def test_257_places(self):
        self.assertEqual(order(BOX, history(*blocks(8, 1))), [-28])
        self.assertEqual(order(BOX, history(*blocks(7, 7, 1, 1))), [-28])

    def test_just_256_places_that_no_order_explains(self):
        self.assertEqual(order(BOX, history(*blocks(8), call(9, 9, 0, 0, 0, 1))), [-33])
        self.assertEqual(order(BOX, history(*blocks(7, 7, 1), call(9, 9, 0, 0, 0, 1))), [-33])

    def test_257_places_that_no_order_explains(self):
        self.assertEqual(order(BOX, history(*blocks(8, 1), call(9, 9, 0, 0, 0, 1))), [-28])
        self.assertEqual(order(BOX, history(*blocks(9), call(9, 9, 0, 0, 0, 1))), [-28])

    def test_places_behind_a_whole_one_count(self):
        self.assertEqual(order(BOX, history(*[call(0, NEVER, 0)] * 8)), [0])
        self.assertEqual(order(BOX, history(*[call(0, NEVER, 0)] * 9)), [-28])
        self.assertEqual(order(BOX, history(call(0, 1, 0), *[call(2, NEVER, 0)] * 8)), [-28])
        self.assertEqual(order(BOX, history(call(0, 1, 0), *[call(2, NEVER, 0)] * 7)), [1, 0])

    def test_most_calls_that_did_not_end(self):
        self.assertEqual(order(ROW, history(*[call(0, NEVER, 0, a) for a in range(16)])), [-28])

    def test_what_the_thing_holds_makes_another_place(self):
        # 5 at once, all different: 1 + 5 + 20 + 60 + 120 + 120 rows; all alike: one for each choice of calls.
        self.assertEqual(order(ROW, at_once(*[(0, a, 0, 0) for a in range(5)])), [-28])
        self.assertEqual(order(ROW, at_once(*[(0, a, 0, 0) for a in range(4)])), [4, 0, 1, 2, 3])
        self.assertEqual(order(ROW, at_once(*[(0, 1, 0, 0)] * 8)), [8] + list(range(8)))

    def test_same_place_come_to_in_several_ways_counts_once(self):
        self.assertEqual(order(SET, at_once(*[(0, a, 0, 1) for a in range(8)])), [8] + list(range(8)))
        self.assertEqual(order(SUM, history(*[call(0, NEVER, 0, a) for a in range(8)])), [0])

    def test_only_what_is_come_to_counts(self):
        # Each of the 16 must stand just behind the one told before it: 17 places.
        told = at_once(*[(0, 1, 0, at) for at in range(16)])
        self.assertEqual(order(SUM, told), [16] + list(range(16)))


if __name__ == "__main__":
    unittest.main()
