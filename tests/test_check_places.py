"""Which places are taken as a proof, and which aren't."""

import unittest

from asifbehind.histories import check, proof
from telling import (BOX, ROW, SET, SUM, SORTS, GREATEST, GREATEST_ANSWER, NEVER, at_once, blocks, call, history,
                     in_numbers, one_by_one)

# An answer that no call here can have, whatever is done before it.
FALSE = 99

# Of each kind of thing histories that no order explains, and the places that are come to.
PROVED = (
    (BOX, one_by_one((1, 7, 0, 0), (0, 0, 0, 8)), ((0, [0]), (1, [7]))),
    (BOX, at_once((0, 0, 0, 5), (1, 3, 0, 0), (2, 3, 4, 1)), ((0, [0]), (2, [3]), (6, [4]))),
    (BOX, one_by_one((2, 5, 6, 0), (0, 0, 0, 6)), ((0, [0]), (1, [0]))),
    (BOX, history(call(0, 1, 1, 1), call(0, 1, 1, 2), call(2, 3, 0, 0, 0, 3)),
     ((0, [0]), (1, [1]), (2, [2]), (3, [2]), (3, [1]))),
    (BOX, one_by_one((1, GREATEST, 0, 0), (0, 0, 0, 0)), ((0, [0]), (1, [GREATEST]))),
    (ROW, one_by_one((1, 0, 0, 1)), ((0, []),)),
    (ROW, one_by_one((0, 9, 0, 0), (0, 4, 0, 0), (1, 0, 0, 10), (1, 0, 0, 10)),
     ((0, []), (1, [9]), (3, [9, 4]), (7, [4]))),
    (ROW, one_by_one((0, 5, 0, 0), (0, 5, 0, 0), (1, 0, 0, 5)), ((0, []), (1, [5]), (3, [5, 5]))),
    (ROW, one_by_one((0, GREATEST, 0, 0), (1, 0, 0, 0)), ((0, []), (1, [GREATEST]))),
    (SET, one_by_one((0, 9, 0, 1), (0, 4, 0, 1), (0, 6, 0, 1), (1, 6, 0, 1), (2, 6, 0, 1)),
     ((0, []), (1, [9]), (3, [4, 9]), (7, [4, 6, 9]), (15, [4, 9]))),
    (SET, at_once((0, 9, 0, 1), (0, 4, 0, 1), (2, 5, 0, 1)), ((0, []), (1, [9]), (2, [4]), (3, [4, 9]))),
    (SUM, one_by_one((0, 5, 0, 0), (0, 3, 0, 5), (1, 0, 0, 5)), ((0, [0]), (1, [5]), (3, [8]))),
    (SUM, one_by_one((0, GREATEST, 0, 0), (0, 1, 0, GREATEST), (1, 0, 0, 1)),
     ((0, [0]), (1, [GREATEST]), (3, [0]))),
)


class Taken(unittest.TestCase):
    def test_places_number_by_number(self):
        self.assertEqual(check(BOX, one_by_one((1, 7, 0, 0), (0, 0, 0, 8)), [0, 1, 0, 1, 1, 7]), [1])
        self.assertEqual(check(ROW, one_by_one((0, 5, 0, 0), (0, 4, 0, 0), (1, 0, 0, 5)),
                               [0, 0, 1, 1, 5, 3, 2, 5, 4]), [1])
        self.assertEqual(check(SET, one_by_one((0, 5, 0, 1), (0, 4, 0, 1), (2, 5, 0, 0)),
                               [0, 0, 1, 1, 5, 3, 2, 4, 5]), [1])
        self.assertEqual(check(SUM, one_by_one((0, 5, 0, 0), (1, 0, 0, 6)), [0, 1, 0, 1, 1, 5]), [1])

    def test_places_that_are_come_to(self):
        for kind, told, places in PROVED:
            self.assertEqual(check(kind, told, in_numbers(*places)), [1], (kind, told))

    def test_what_proof_tells(self):
        for kind, told, places in PROVED:
            self.assertEqual(proof(kind, told), [len(places)] + in_numbers(*places))
            self.assertEqual(check(kind, told, proof(kind, told)[1:]), [1], (kind, told))

    def test_in_another_order(self):
        for kind, told, places in PROVED:
            for at in range(len(places)):
                self.assertEqual(check(kind, told, in_numbers(*places[at:], *places[:at])), [1])
                self.assertEqual(check(kind, told, in_numbers(*reversed(places))), [1])

    def test_told_twice(self):
        for kind, told, places in PROVED:
            self.assertEqual(check(kind, told, in_numbers(*places, *places)), [1])
            for place in places:
                self.assertEqual(check(kind, told, in_numbers(*places, place)), [1])
                self.assertEqual(check(kind, told, in_numbers(place, *places)), [1])

    def test_sixteen_calls(self):
        for kind, held in ((BOX, [0]), (ROW, []), (SET, []), (SUM, [0])):
            what = {BOX: 0, ROW: 1, SET: 2, SUM: 1}[kind]
            told = one_by_one(*[(what, 0, 0, 0)] * 15, (what, 0, 0, FALSE))
            places = [(2 ** at - 1, held) for at in range(16)]
            self.assertEqual(check(kind, told, in_numbers(*places)), [1])
            self.assertEqual(check(kind, told, in_numbers(*places[:-1])), [0])

    def test_many_numbers_in_a_row(self):
        told = one_by_one(*[(0, 100 - at, 0, 0) for at in range(15)], (1, 0, 0, 0))
        places = [(2 ** at - 1, [100 - number for number in range(at)]) for at in range(16)]
        self.assertEqual(check(ROW, told, in_numbers(*places)), [1])
        places[15] = (2 ** 15 - 1, list(reversed(places[15][1])))
        self.assertEqual(check(ROW, told, in_numbers(*places)), [0])


class NotComeTo(unittest.TestCase):
    """Places beside those that are come to: they're held to the same as the others."""

    def test_no_step_leads_from_them(self):
        for kind, start, others in (
            (BOX, [0], ([1], [FALSE - 1], [GREATEST])),
            (ROW, [], ([0], [7, FALSE - 1], [6] * 40)),
            (SET, [], ([0], [3, 4, GREATEST], list(range(40)))),
            (SUM, [0], ([1], [FALSE - 1], [GREATEST])),
        ):
            told = at_once(*[({BOX: 0, ROW: 1, SET: 2, SUM: 1}[kind], 3, 0, FALSE)] * 3)
            for done in range(7):
                for other in ((done, held) for held in (start, *others)):
                    self.assertEqual(check(kind, told, in_numbers((0, start), other)), [1], (kind, other))
                    self.assertEqual(check(kind, told, in_numbers(other, (0, start))), [1], (kind, other))

    def test_a_step_leads_out(self):
        told = one_by_one((0, 0, 0, 9), (0, 0, 0, 8))
        self.assertEqual(check(BOX, told, in_numbers((0, [0]))), [1])
        self.assertEqual(check(BOX, told, in_numbers((0, [0]), (0, [8]))), [1])
        self.assertEqual(check(BOX, told, in_numbers((0, [0]), (0, [9]))), [0])
        self.assertEqual(check(BOX, told, in_numbers((0, [9]), (0, [0]))), [0])
        self.assertEqual(check(BOX, told, in_numbers((0, [0]), (0, [9]), (1, [9]))), [1])

    def test_one_is_whole(self):
        told = one_by_one((0, 0, 0, 9))
        self.assertEqual(check(BOX, told, in_numbers((0, [0]))), [1])
        self.assertEqual(check(BOX, told, in_numbers((0, [0]), (1, [9]))), [0])
        self.assertEqual(check(BOX, told, in_numbers((1, [5]), (0, [0]))), [0])

    def test_calls_done_that_could_not_be_yet(self):
        # Call 1 began behind the end of call 0, so no way leads to a place with call 1 alone.
        told = one_by_one((0, 0, 0, 9), (0, 0, 0, 0))
        self.assertEqual(check(BOX, told, in_numbers((0, [0]), (2, [0]))), [1])
        self.assertEqual(check(BOX, told, in_numbers((0, [0]), (2, [9]))), [0])

    def test_a_long_row(self):
        told = one_by_one((1, 0, 0, 9), (0, 6, 0, 0))
        for count in (2, 17, 300):
            self.assertEqual(check(ROW, told, in_numbers((0, []), (0, [9] * count))), [1])
            self.assertEqual(check(ROW, told, in_numbers((0, []), (0, [8] + [9] * (count - 1)))), [0])
            longer = (0, [8] + [9] * (count - 1)), (1, [9] * (count - 1))
            self.assertEqual(check(ROW, told, in_numbers((0, []), *longer)), [0])
            false = one_by_one((1, 0, 0, 9), (0, 6, 0, 1))
            self.assertEqual(check(ROW, false, in_numbers((0, []), *longer)), [1])

    def test_a_row_with_greatest_numbers(self):
        told = history(call(0, 9, 1, 0, 0, 2 ** 32), call(0, 9, 1, 0, 0, FALSE))
        self.assertEqual(check(ROW, told, in_numbers((0, []))), [1])
        self.assertEqual(check(ROW, told, in_numbers((0, []), (0, [GREATEST, 5]))), [0])
        self.assertEqual(check(ROW, told, in_numbers((0, []), (0, [GREATEST, 5]), (1, [5]))), [1])

    def test_a_set_with_others_in_it(self):
        told = history(call(0, 9, 0, 5, 0, 1), call(0, 9, 0, 5, 0, 1))
        places = (0, []), (1, [5]), (2, [5])
        self.assertEqual(check(SET, told, in_numbers(*places)), [1])
        self.assertEqual(check(SET, told, in_numbers(*places, (0, [3, 7]))), [0])
        self.assertEqual(check(SET, told, in_numbers(*places, (0, [3, 7]), (1, [3, 5, 7]))), [0])
        self.assertEqual(check(SET, told, in_numbers(*places, (0, [3, 7]), (1, [3, 5, 7]), (2, [3, 5, 7]))), [1])
        self.assertEqual(check(SET, told, in_numbers(*places, (0, [0, 5, GREATEST]))), [1])

    def test_a_sum_that_goes_round(self):
        told = history(call(0, 9, 0, 2, 0, GREATEST), call(0, 9, 1, 0, 0, FALSE))
        self.assertEqual(check(SUM, told, in_numbers((0, [0]))), [1])
        self.assertEqual(check(SUM, told, in_numbers((0, [0]), (0, [GREATEST]))), [0])
        self.assertEqual(check(SUM, told, in_numbers((0, [0]), (0, [GREATEST]), (1, [1]))), [1])


class NotTaken(unittest.TestCase):
    def test_none_told(self):
        for kind, told, places in PROVED:
            self.assertEqual(check(kind, told, []), [0])
        for kind in SORTS:
            self.assertEqual(check(kind, [], []), [0])

    def test_start_lacking(self):
        for kind, told, places in PROVED:
            self.assertEqual(check(kind, told, in_numbers(*places[1:])), [0])

    def test_something_else_in_the_place_of_the_start(self):
        told = one_by_one((0, 0, 0, 9), (0, 0, 0, 9))
        self.assertEqual(check(BOX, told, [0, 1, 0]), [1])
        self.assertEqual(check(BOX, told, [0, 1, 1]), [0])
        self.assertEqual(check(BOX, told, [1, 1, 0]), [0])
        self.assertEqual(check(SUM, one_by_one((1, 0, 0, 9)), [0, 1, 1]), [0])
        self.assertEqual(check(ROW, one_by_one((1, 0, 0, 9)), [0, 1, 0]), [0])
        self.assertEqual(check(SET, one_by_one((2, 5, 0, 1)), [0, 1, 0]), [0])

    def test_one_that_is_come_to_lacking(self):
        for kind, told, places in PROVED:
            for at in range(1, len(places)):
                self.assertEqual(check(kind, told, in_numbers(*places[:at], *places[at + 1:])), [0])

    def test_one_with_another_number_in_its_place(self):
        for kind, told, places in PROVED:
            for at in range(1, len(places)):
                other = (places[at][0], [88] if kind != ROW else places[at][1] + [88])
                self.assertEqual(check(kind, told, in_numbers(*places[:at], other, *places[at + 1:])), [0])

    def test_one_is_whole(self):
        for kind, told, places in PROVED:
            whole = (2 ** (len(told) // 6) - 1, [77])
            self.assertEqual(check(kind, told, in_numbers(*places, whole)), [0])
            self.assertEqual(check(kind, told, in_numbers(whole, *places)), [0])

    def test_some_order_explains_the_history(self):
        told = one_by_one((1, 7, 0, 0), (0, 0, 0, 7))
        for places in (((0, [0]),), ((0, [0]), (1, [7])), ((0, [0]), (1, [7]), (3, [7]))):
            self.assertEqual(check(BOX, told, in_numbers(*places)), [0])

    def test_proof_of_another_kind_of_thing(self):
        told = one_by_one((0, 0, 0, 0), (1, 5, 0, 0))
        self.assertEqual(check(SUM, one_by_one((0, 5, 0, 0), (1, 0, 0, 0)), in_numbers((0, [0]), (1, [5]))), [1])
        self.assertEqual(check(BOX, told, in_numbers((0, [0]), (1, [5]))), [0])

    def test_proof_with_its_count_ahead(self):
        # The count that proof gives back first is no part of the places.
        told = one_by_one((1, 7, 0, 0), (0, 0, 0, 8))
        self.assertEqual(proof(BOX, told), [2, 0, 1, 0, 1, 1, 7])
        self.assertEqual(check(BOX, told, proof(BOX, told)), [-71])


class NoCall(unittest.TestCase):
    def test_the_start_is_whole(self):
        for kind, held in ((BOX, [0]), (ROW, []), (SET, []), (SUM, [0])):
            self.assertEqual(check(kind, [], in_numbers((0, held))), [0])
            self.assertEqual(check(kind, [], in_numbers((0, [5]))), [0])
            self.assertEqual(check(kind, [], in_numbers((0, held), (0, [5]))), [0])


class NotEnded(unittest.TestCase):
    def test_steps_with_them_count(self):
        told = history(call(0, 9, 0, 0, 0, FALSE), call(0, NEVER, 1, 5))
        self.assertEqual(check(BOX, told, in_numbers((0, [0]), (2, [5]))), [1])
        self.assertEqual(check(BOX, told, in_numbers((0, [0]))), [0])

    def test_whatever_they_were_answered(self):
        for answered in (0, 1, 5, FALSE, GREATEST_ANSWER):
            told = history(call(0, 9, 1, 0, 0, FALSE), call(0, NEVER, 0, 5, 0, answered))
            self.assertEqual(check(ROW, told, in_numbers((0, []), (2, [5]))), [1])
            self.assertEqual(check(ROW, told, in_numbers((0, []))), [0])

    def test_whole_though_they_are_not_done(self):
        told = history(call(0, 9, 0), call(0, NEVER, 0), call(0, NEVER, 0))
        self.assertEqual(check(BOX, told, in_numbers(*[(done, [0]) for done in range(8)])), [0])
        false = history(call(0, 9, 0, 0, 0, FALSE), call(0, NEVER, 0), call(0, NEVER, 0))
        self.assertEqual(check(BOX, false, in_numbers(*[(done, [0]) for done in (0, 2, 4, 6)])), [1])
        self.assertEqual(check(BOX, false, in_numbers(*[(done, [0]) for done in (0, 2, 4, 6, 1)])), [0])

    def test_none_ended(self):
        self.assertEqual(check(BOX, history(call(0, NEVER, 0)), in_numbers((0, [0]), (1, [0]))), [0])
        self.assertEqual(check(SET, history(call(0, NEVER, 0, 4)), in_numbers((0, []), (1, [4]))), [0])

    def test_not_before_they_began(self):
        told = history(call(0, 5, 0, 0, 0, 7), call(6, NEVER, 1, 7))
        self.assertEqual(check(BOX, told, in_numbers((0, [0]))), [1])
        told = history(call(0, 5, 0, 0, 0, 7), call(5, NEVER, 1, 7))
        self.assertEqual(check(BOX, told, in_numbers((0, [0]))), [0])
        self.assertEqual(check(BOX, told, in_numbers((0, [0]), (2, [7]))), [0])

    def test_ended_at_the_last_moment_that_there_is(self):
        self.assertEqual(check(BOX, history(call(0, NEVER - 1, 0, 0, 0, 7)), [0, 1, 0]), [1])
        self.assertEqual(check(BOX, history(call(0, NEVER, 0, 0, 0, 7)), [0, 1, 0]), [0])


class Moments(unittest.TestCase):
    def test_a_call_waits_for_those_that_ended_before_it_began(self):
        told = history(call(0, 4, 0, 0, 0, FALSE), call(5, 9, 0))
        self.assertEqual(check(BOX, told, in_numbers((0, [0]))), [1])

    def test_it_does_not_wait_for_one_that_ended_at_that_very_moment(self):
        told = history(call(0, 5, 0, 0, 0, FALSE), call(5, 9, 0))
        self.assertEqual(check(BOX, told, in_numbers((0, [0]))), [0])
        self.assertEqual(check(BOX, told, in_numbers((0, [0]), (2, [0]))), [1])


class ManyPlaces(unittest.TestCase):
    def test_just_256_that_are_come_to(self):
        told = history(*blocks(8), call(9, 9, 0, 0, 0, FALSE))
        places = [(done, [0]) for done in range(256)]
        self.assertEqual(check(BOX, told, in_numbers(*places)), [1])
        self.assertEqual(check(BOX, told, in_numbers(*reversed(places))), [1])
        for at in range(256):
            self.assertEqual(check(BOX, told, in_numbers(*places[:at], *places[at + 1:])), [0])

    def test_fewer_than_are_come_to_where_those_are_too_many(self):
        told = history(*[call(0, NEVER, 0)] * 9, call(0, 9, 0, 0, 0, FALSE))
        self.assertEqual(proof(BOX, told), [-28])
        self.assertEqual(check(BOX, told, in_numbers(*[(done, [0]) for done in range(256)])), [0])


if __name__ == "__main__":
    unittest.main()
