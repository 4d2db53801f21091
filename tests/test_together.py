"""What the functions say of one another, over many histories."""

import unittest

from asifbehind.histories import check, follows, order, proof, since
from telling import (BOX, NEVER, SET, SORTS, SUM, Draws, drawn_calls, every_order, every_two_calls, explains, history,
                     in_numbers, slow_steps)


def start(kind):
    return (0, [0] if kind in (BOX, SUM) else [])


def drawn_held(draws, kind):
    held = [draws.below(4) for turn in range(1 if kind in (BOX, SUM) else draws.below(4))]
    return sorted(set(held)) if kind == SET else held


def drawn_proof(draws, kind, calls):
    """Places by lot, as a rule with the start and what one comes to from them, at times with some left out."""
    places = [(draws.below(2 ** len(calls)), drawn_held(draws, kind)) for turn in range(draws.below(3))]
    if draws.below(8):
        places.insert(draws.below(len(places) + 1), start(kind))
    if draws.below(8):
        for place in places:
            places.extend(step for step in slow_steps(kind, calls, place) if step not in places)
    if places and draws.below(4) == 0:
        places.pop(draws.below(len(places)))
    return in_numbers(*places)


def drawn_histories(seed, count, most, wrong):
    draws = Draws(seed)
    return [(turn % 4, drawn_calls(draws, turn % 4, most, wrong)) for turn in range(count)]


class OneOrTheOther(unittest.TestCase):
    def beside(self, kind, calls):
        """An order that's told explains all; where none is told, what's told as a proof is taken."""
        told = history(*calls)
        given, places = order(kind, told), proof(kind, told)
        if given == [-28]:
            self.assertEqual(places, [-28], (kind, calls))
        elif given == [-33]:
            self.assertGreater(places[0], 0, (kind, calls))
            self.assertEqual(check(kind, told, places[1:]), [1], (kind, calls))
        else:
            self.assertEqual(given[0], len(given) - 1, (kind, calls))
            self.assertEqual(follows(kind, told, given[1:]), [1], (kind, calls))
            self.assertEqual(places, [-33], (kind, calls))
        return given[0]

    def test_two_calls_in_every_way(self):
        for kind, calls in every_two_calls():
            self.assertNotEqual(self.beside(kind, calls), -28)

    def test_drawn_histories(self):
        for wrong in (2, 6, 30):
            for kind, calls in drawn_histories(30 + wrong, 800, 6, wrong):
                self.beside(kind, calls)

    def test_drawn_long_histories(self):
        met = [self.beside(kind, calls) for kind, calls in drawn_histories(41, 1200, 16, 20)]
        # Draws that never came to one of these would show nothing of it.
        self.assertGreater(met.count(-33), 100)
        self.assertGreater(met.count(-28), 50)
        self.assertGreater(len(met) - met.count(-33) - met.count(-28), 100)

    def test_orders_that_are_told_explain_by_the_slow_answer_too(self):
        for kind, calls in drawn_histories(42, 400, 5, 5):
            given = order(kind, history(*calls))
            found = [numbers for numbers in every_order(calls) if explains(kind, calls, numbers)]
            self.assertEqual(given == [-33], found == [], (kind, calls))
            if found:
                self.assertIn(tuple(given[1:]), found, (kind, calls))


class WhateverProofIsTaken(unittest.TestCase):
    def test_drawn_proofs(self):
        draws = Draws(51)
        for kind in SORTS:
            taken = refused = 0
            for turn in range(1200):
                calls = drawn_calls(draws, kind, 5, 3)
                numbers = drawn_proof(draws, kind, calls)
                if check(kind, history(*calls), numbers) == [1]:
                    taken += 1
                    self.assertEqual(order(kind, history(*calls)), [-33], (kind, calls, numbers))
                    self.assertGreater(len(numbers), 0)
                else:
                    refused += 1
            self.assertGreater(taken, 100)
            self.assertGreater(refused, 100)

    def test_there_is_no_order_by_the_slow_answer_either(self):
        draws = Draws(52)
        taken = 0
        for turn in range(600):
            kind = turn % 4
            calls = drawn_calls(draws, kind, 4, 3)
            numbers = drawn_proof(draws, kind, calls)
            if check(kind, history(*calls), numbers) == [1]:
                taken += 1
                self.assertFalse(any(explains(kind, calls, told) for told in every_order(calls)), (kind, calls))
        self.assertGreater(taken, 50)

    def test_no_proof_is_taken_where_some_order_explains(self):
        draws = Draws(53)
        asked = 0
        for kind, calls in drawn_histories(54, 800, 5, 40):
            if order(kind, history(*calls))[0] >= 0:
                for turn in range(5):
                    asked += 1
                    self.assertEqual(check(kind, history(*calls), drawn_proof(draws, kind, calls)), [0])
        self.assertGreater(asked, 1000)

    def test_the_proof_of_one_history_handed_in_with_another(self):
        told = [(kind, calls, proof(kind, history(*calls))[1:]) for kind, calls in drawn_histories(55, 400, 4, 3)]
        met = []
        for kind, calls, numbers in told:
            for other, other_calls, other_numbers in told[:60]:
                given = check(kind, history(*calls), other_numbers)
                met.append(given[0])
                if given == [1]:
                    self.assertEqual(order(kind, history(*calls)), [-33], (kind, calls, other_numbers))
        self.assertEqual(sorted(set(met)), [-71, 0, 1])


class Since(unittest.TestCase):
    def test_a_moment_only_where_no_order_explains(self):
        met = {"explained": 0, "moment": 0}
        for kind, calls in drawn_histories(61, 1200, 16, 12):
            given, told = since(kind, history(*calls)), order(kind, history(*calls))
            if given[0] == 0:
                # What had been seen by then bars all that began later, so places don't become more either.
                self.assertEqual(told, [-33], (kind, calls))
                self.assertIn(given[1], [end for begin, end, what, a, b, answered in calls if end != NEVER])
                met["moment"] += 1
            if told == [-33]:
                self.assertIn(given[0], (0, -28), (kind, calls))
            if told[0] >= 0:
                self.assertIn(given, ([-33], [-28]), (kind, calls))
                met["explained"] += 1
        self.assertTrue(all(count > 100 for count in met.values()), met)


if __name__ == "__main__":
    unittest.main()
