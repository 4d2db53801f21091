"""The places that are told, number by number, for each kind of thing."""

import unittest
from itertools import combinations

from asifbehind.histories import proof
from telling import (BOX, ROW, SET, SUM, SORTS, GREATEST, GREATEST_ANSWER, NEVER, at_once, blocks, call, history,
                     in_numbers, one_by_one)

# An answer that no call here can have, whatever is done before it.
FALSE = 99


def listed(*places):
    """What must be given back for places told as (done, numbers that the thing holds)."""
    return [len(places)] + in_numbers(*places)


class Box(unittest.TestCase):
    def test_number_by_number(self):
        self.assertEqual(proof(BOX, one_by_one((1, 7, 0, 0), (0, 0, 0, 8))), [2, 0, 1, 0, 1, 1, 7])

    def test_each_sort_of_call(self):
        told = at_once((0, 0, 0, 5), (1, 3, 0, 0), (2, 3, 4, 1))
        self.assertEqual(proof(BOX, told), [3, 0, 1, 0, 2, 1, 3, 6, 1, 4])
        told = one_by_one((2, 5, 6, 0), (0, 0, 0, 0), (0, 0, 0, 6))
        self.assertEqual(proof(BOX, told), [3, 0, 1, 0, 1, 1, 0, 3, 1, 0])

    def test_same_calls_done_and_another_number_is_another_place(self):
        told = history(call(0, 1, 1, 1), call(0, 1, 1, 2), call(2, 3, 0, 0, 0, 3))
        self.assertEqual(proof(BOX, told), listed((0, [0]), (1, [1]), (2, [2]), (3, [2]), (3, [1])))

    def test_same_calls_done_and_the_same_number_is_one_place(self):
        told = history(call(0, 1, 1, 1), call(0, 1, 1, 1), call(2, 3, 0, 0, 0, 3))
        self.assertEqual(proof(BOX, told), listed((0, [0]), (1, [1]), (2, [1]), (3, [1])))

    def test_greatest_number(self):
        told = one_by_one((1, GREATEST, 0, 0), (0, 0, 0, GREATEST_ANSWER))
        self.assertEqual(proof(BOX, told), [2, 0, 1, 0, 1, 1, GREATEST])


class Row(unittest.TestCase):
    def test_start_alone(self):
        self.assertEqual(proof(ROW, one_by_one((1, 0, 0, 1))), [1, 0, 0])

    def test_number_by_number(self):
        told = one_by_one((0, 9, 0, 0), (0, 4, 0, 0), (0, 6, 0, 0), (1, 0, 0, 10), (1, 0, 0, 10))
        self.assertEqual(proof(ROW, told), [5, 0, 0, 1, 1, 9, 3, 2, 9, 4, 7, 3, 9, 4, 6, 15, 2, 4, 6])

    def test_emptied_again(self):
        told = one_by_one((0, 0, 0, 0), (1, 0, 0, 1), (1, 0, 0, 0), (1, 0, 0, 1))
        self.assertEqual(proof(ROW, told), [4, 0, 0, 1, 1, 0, 3, 0, 7, 0])

    def test_same_number_twice(self):
        told = one_by_one((0, 5, 0, 0), (0, 5, 0, 0), (1, 0, 0, 5))
        self.assertEqual(proof(ROW, told), [3, 0, 0, 1, 1, 5, 3, 2, 5, 5])

    def test_at_once(self):
        told = at_once((1, 0, 0, 3), (1, 0, 0, 3), (0, 1, 0, 0), (0, 2, 0, 0))
        self.assertEqual(proof(ROW, told), listed((0, []), (4, [1]), (8, [2]), (12, [1, 2]), (9, []), (10, []),
                                                  (12, [2, 1]), (13, [1]), (14, [1])))

    def test_fifteen_in_the_row(self):
        told = one_by_one(*[(0, 100 - at, 0, 0) for at in range(15)], (1, 0, 0, 0))
        places = [(2 ** at - 1, [100 - number for number in range(at)]) for at in range(16)]
        self.assertEqual(proof(ROW, told), listed(*places))


class Set(unittest.TestCase):
    def test_start_alone(self):
        self.assertEqual(proof(SET, one_by_one((2, 0, 0, 1))), [1, 0, 0])

    def test_rising_however_it_was_filled(self):
        told = one_by_one((0, 9, 0, 1), (0, 4, 0, 1), (0, 6, 0, 1), (0, 6, 0, 0), (1, 6, 0, 1), (2, 6, 0, 1))
        self.assertEqual(proof(SET, told),
                         [6, 0, 0, 1, 1, 9, 3, 2, 4, 9, 7, 3, 4, 6, 9, 15, 3, 4, 6, 9, 31, 2, 4, 9])

    def test_rising_by_their_size(self):
        told = one_by_one((0, 10, 0, 1), (0, GREATEST, 0, 1), (0, 9, 0, 1), (0, 2 ** 31, 0, 1), (2, 0, 0, 1))
        self.assertEqual(proof(SET, told)[-6:], [15, 4, 9, 10, 2 ** 31, GREATEST])

    def test_emptied_again(self):
        told = one_by_one((0, 5, 0, 1), (1, 5, 0, 1), (1, 5, 0, 0), (2, 5, 0, 1))
        self.assertEqual(proof(SET, told), [4, 0, 0, 1, 1, 5, 3, 0, 7, 0])

    def test_at_once(self):
        told = at_once((0, 9, 0, 1), (0, 4, 0, 1), (0, 6, 0, 1), (2, 5, 0, 1))
        self.assertEqual(proof(SET, told), listed((0, []), (1, [9]), (2, [4]), (4, [6]), (3, [4, 9]), (5, [6, 9]),
                                                  (6, [4, 6]), (7, [4, 6, 9])))


class Sum(unittest.TestCase):
    def test_number_by_number(self):
        told = one_by_one((0, 5, 0, 0), (0, 3, 0, 5), (1, 0, 0, 8), (1, 0, 0, 5))
        self.assertEqual(proof(SUM, told), [4, 0, 1, 0, 1, 1, 5, 3, 1, 8, 7, 1, 8])

    def test_goes_round(self):
        told = one_by_one((0, GREATEST, 0, 0), (0, 1, 0, GREATEST), (0, 2, 0, 0), (1, 0, 0, 2 ** 32 + 2))
        self.assertEqual(proof(SUM, told), [4, 0, 1, 0, 1, 1, GREATEST, 3, 1, 0, 7, 1, 2])

    def test_at_once(self):
        self.assertEqual(proof(SUM, at_once((0, 4, 0, 0), (0, 5, 0, 0))), [3, 0, 1, 0, 1, 1, 4, 2, 1, 5])
        told = at_once((0, 4, 0, 1), (0, 5, 0, 1), (0, 1, 0, 0))
        self.assertEqual(proof(SUM, told), listed((0, [0]), (4, [1]), (5, [5]), (6, [6])))


class InWhichOrder(unittest.TestCase):
    def test_shorter_ways_first_and_lesser_calls_first(self):
        told = history(*blocks(4), call(9, 9, 0, 0, 0, FALSE))
        masks = [0, 1, 2, 4, 8, 3, 5, 9, 6, 10, 12, 7, 11, 13, 14, 15]
        self.assertEqual(proof(BOX, told), listed(*[(done, [0]) for done in masks]))

    def test_of_each_in_turn_not_by_what_is_done(self):
        # From (1, [5]) one comes to (3, [5, 7]), (5, [5, 6]); only then from (2, [7]) to (3, [7, 5]), (6, [7, 6]).
        told = at_once((0, 5, 0, 0), (0, 7, 0, 0), (0, 6, 0, 0), (1, 0, 0, FALSE))
        self.assertEqual(proof(ROW, told), listed(
            (0, []), (1, [5]), (2, [7]), (4, [6]),
            (3, [5, 7]), (5, [5, 6]), (3, [7, 5]), (6, [7, 6]), (5, [6, 5]), (6, [6, 7]),
            (7, [5, 7, 6]), (7, [5, 6, 7]), (7, [7, 5, 6]), (7, [7, 6, 5]), (7, [6, 5, 7]), (7, [6, 7, 5])))

    def test_told_last_and_done_first(self):
        calls = [call(2 * at, 2 * at + 1, 0) for at in reversed(range(16))]
        calls[0] = call(30, 31, 0, 0, 0, FALSE)
        places = [(2 ** 16 - 2 ** (16 - at), [0]) for at in range(16)]
        self.assertEqual(places[-1], (65534, [0]))
        self.assertEqual(proof(BOX, history(*calls)), listed(*places))


class Moments(unittest.TestCase):
    def test_a_call_waits_for_those_that_ended_before_it_began(self):
        told = history(call(0, 4, 0), call(5, 9, 0), call(0, 9, 0, 0, 0, FALSE))
        self.assertEqual(proof(BOX, told), listed((0, [0]), (1, [0]), (3, [0])))

    def test_it_does_not_wait_for_one_that_ended_at_that_very_moment(self):
        told = history(call(0, 5, 0), call(5, 9, 0), call(0, 9, 0, 0, 0, FALSE))
        self.assertEqual(proof(BOX, told), listed((0, [0]), (1, [0]), (2, [0]), (3, [0])))

    def test_it_waits_for_one_that_is_never_answered_so(self):
        told = history(call(0, 4, 0, 0, 0, FALSE), call(5, 9, 0), call(5, NEVER, 1, FALSE))
        self.assertEqual(proof(BOX, told), [1, 0, 1, 0])


class NotEnded(unittest.TestCase):
    def test_one_comes_to_places_with_it(self):
        for kind, false, other, held in (
            (BOX, call(0, 9, 0, 0, 0, FALSE), call(0, NEVER, 1, 5), [[0], [5]]),
            (ROW, call(0, 9, 1, 0, 0, FALSE), call(0, NEVER, 0, 5), [[], [5]]),
            (SET, call(0, 9, 2, 0, 0, FALSE), call(0, NEVER, 0, 5), [[], [5]]),
            (SUM, call(0, 9, 1, 0, 0, FALSE), call(0, NEVER, 0, 5), [[0], [5]]),
        ):
            self.assertEqual(proof(kind, history(false, other)), listed((0, held[0]), (2, held[1])))
            self.assertEqual(proof(kind, history(other, false)), listed((0, held[0]), (1, held[1])))

    def test_whatever_it_was_answered(self):
        for answered in (0, 1, 6, FALSE, GREATEST_ANSWER):
            others = call(0, NEVER, 2, 0, 5, answered), call(0, NEVER, 0, 0, 0, answered)
            told = history(call(0, 9, 0, 0, 0, FALSE), *others)
            self.assertEqual(proof(BOX, told), listed((0, [0]), (2, [5]), (4, [0]), (6, [5])))

    def test_not_before_it_began(self):
        told = history(call(0, 5, 0, 0, 0, 7), call(6, NEVER, 1, 7))
        self.assertEqual(proof(BOX, told), [1, 0, 1, 0])
        told = history(call(0, 5, 0), call(6, NEVER, 1, 7), call(7, 8, 0, 0, 0, FALSE))
        self.assertEqual(proof(BOX, told), listed((0, [0]), (1, [0]), (3, [7])))

    def test_ended_at_the_last_moment_that_there_is(self):
        self.assertEqual(proof(BOX, history(call(0, NEVER - 1, 0, 0, 0, 7))), [1, 0, 1, 0])
        self.assertEqual(proof(BOX, history(call(0, NEVER, 0, 0, 0, 7))), [-33])


class ManyPlaces(unittest.TestCase):
    def test_just_256(self):
        told = history(*blocks(8), call(9, 9, 0, 0, 0, FALSE))
        chosen = [numbers for size in range(9) for numbers in combinations(range(8), size)]
        places = [(sum(2 ** number for number in numbers), [0]) for numbers in chosen]
        self.assertEqual(len(places), 256)
        self.assertEqual(proof(BOX, told), listed(*places))

    def test_just_256_with_calls_that_did_not_end(self):
        told = history(*[call(0, NEVER, 0)] * 8, call(0, 9, 0, 0, 0, FALSE))
        self.assertEqual(len(proof(BOX, told)), 1 + 3 * 256)
        self.assertEqual(proof(BOX, told)[0], 256)

    def test_no_call_leads_on_in_any_kind(self):
        for kind, start in ((BOX, [1, 0, 1, 0]), (ROW, [1, 0, 0]), (SET, [1, 0, 0]), (SUM, [1, 0, 1, 0])):
            for what in range(SORTS[kind]):
                for count in (1, 2, 16):
                    self.assertEqual(proof(kind, at_once(*[(what, 0, 0, FALSE)] * count)), start)


if __name__ == "__main__":
    unittest.main()
