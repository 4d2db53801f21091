"""Proof beside a slow answer, and beside what order tells."""

import unittest

from asifbehind.histories import order, proof
from telling import NEVER, ROW, SORTS, Draws, drawn_calls, every_two_calls, history, slow_proof


class Beside(unittest.TestCase):
    def beside(self, kind, calls):
        given = proof(kind, history(*calls))
        self.assertEqual(given, slow_proof(kind, calls), (kind, calls))
        return given

    def test_two_calls_in_every_way(self):
        for kind, calls in every_two_calls():
            self.beside(kind, calls)

    def test_drawn_histories(self):
        draws = Draws(7)
        for kind in SORTS:
            met = {"refused": 0, "few": 0, "several": 0}
            for turn in range(600):
                given = self.beside(kind, drawn_calls(draws, kind, 5, 4))
                met["refused" if given[0] < 0 else "few" if given[0] < 5 else "several"] += 1
            # Draws that never came to one of these would show nothing of it.
            self.assertTrue(all(count > 30 for count in met.values()), (kind, met))

    def test_drawn_histories_about_as_large_as_may_be(self):
        draws = Draws(8)
        met = []
        for turn in range(40):
            calls = [(0, NEVER if draws.below(3) == 0 else 9, 0, draws.below(5), 0, 0) for number in range(5)]
            calls.append((draws.below(20), 20, 1, 0, 0, draws.below(5)))
            met.append(self.beside(ROW, calls)[0])
        self.assertIn(-28, met)
        self.assertIn(-33, met)
        self.assertTrue(any(number > 100 for number in met), met)

    def test_told_where_order_tells_that_there_is_none(self):
        draws = Draws(9)
        met = {"explained": 0, "too many": 0, "proved": 0}
        for turn in range(800):
            kind = turn % 4
            calls = drawn_calls(draws, kind, 16)
            told, given = order(kind, history(*calls)), proof(kind, history(*calls))
            if told == [-33]:
                met["proved"] += 1
                self.places_to_the_end(given)
            else:
                self.assertEqual(given, told if told == [-28] else [-33])
                met["too many" if told == [-28] else "explained"] += 1
        self.assertTrue(all(count > 50 for count in met.values()), met)

    def places_to_the_end(self, given):
        """The numbers are just as many places as the first of them says, none of them twice."""
        places, at = [], 1
        while at < len(given):
            behind = at + 2 + given[at + 1]
            self.assertLessEqual(behind, len(given))
            places.append(tuple(given[at:behind]))
            at = behind
        self.assertEqual(len(places), given[0])
        self.assertEqual(len(set(places)), given[0])


if __name__ == "__main__":
    unittest.main()
