"""Follows beside a slow answer, and beside what order tells."""

import unittest

from asifbehind.histories import follows, order
from telling import SORTS, Draws, drawn_calls, every_order, every_two_calls, history, slow_follows


class Beside(unittest.TestCase):
    def beside(self, kind, calls, numbers):
        given = follows(kind, history(*calls), list(numbers))
        self.assertEqual(given, slow_follows(kind, calls, numbers), (kind, calls, numbers))
        return given[0]

    def test_two_calls_in_every_way(self):
        orders = ((), (0,), (1,), (0, 1), (1, 0), (0, 0), (1, 1, 0), (2,), (0, 1, 2))
        for kind, calls in every_two_calls():
            for numbers in orders:
                self.beside(kind, calls, numbers)

    def test_every_order_of_drawn_histories(self):
        draws = Draws(4)
        for kind in SORTS:
            met = [0, 0]
            for turn in range(120):
                calls = drawn_calls(draws, kind, 5)
                for numbers in every_order(calls):
                    met[self.beside(kind, calls, numbers)] += 1
            # Draws that never came to one of these would show nothing of it.
            self.assertTrue(min(met) > 200, (kind, met))

    def test_drawn_numbers_that_may_be_no_order(self):
        draws = Draws(5)
        for turn in range(4000):
            kind = turn % 4
            calls = drawn_calls(draws, kind, 4)
            self.beside(kind, calls, [draws.below(len(calls) + 1) for number in range(draws.below(6))])

    def test_what_order_tells_explains_and_spoilt_it_is_as_the_slow_answer_says(self):
        draws = Draws(6)
        met = [0, 0]
        for turn in range(600):
            kind = turn % 4
            calls = drawn_calls(draws, kind, 16)
            told = order(kind, history(*calls))
            if told[0] > 0:
                numbers = told[1:]
                self.assertEqual(self.beside(kind, calls, numbers), 1)
                one, other = draws.below(len(numbers)), draws.below(len(numbers))
                numbers[one], numbers[other] = numbers[other], numbers[one]
                met[self.beside(kind, calls, numbers)] += 1
        self.assertTrue(min(met) > 50, met)


if __name__ == "__main__":
    unittest.main()
