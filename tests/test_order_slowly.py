"""Order beside an answer that goes through every order there is."""

import unittest

from asifbehind.histories import order
from telling import NEVER, SORTS, Draws, drawn_calls, every_two_calls, explains, history, slow_order


class Beside(unittest.TestCase):
    def beside(self, kind, calls):
        given = order(kind, history(*calls))
        self.assertEqual(given, slow_order(kind, calls), (kind, calls))
        return given

    def test_two_calls_in_every_way(self):
        for kind, calls in every_two_calls():
            self.beside(kind, calls)

    def test_drawn_histories(self):
        draws = Draws(1)
        for kind in SORTS:
            met = {"refused": 0, "all": 0, "some": 0, "turned": 0}
            for turn in range(700):
                calls = drawn_calls(draws, kind, 5)
                given = self.beside(kind, calls)
                if given[0] < 0:
                    met["refused"] += 1
                else:
                    met["all" if given[0] == len(calls) else "some"] += 1
                    met["turned"] += given[1:] != sorted(given[1:])
            # Draws that never came to one of these would show nothing of it.
            self.assertTrue(all(count > 50 for count in met.values()), (kind, met))

    def test_drawn_histories_about_as_large_as_may_be(self):
        draws = Draws(2)
        met = []
        for turn in range(40):
            calls = [(0, NEVER if draws.below(3) == 0 else 9, 0, draws.below(5), 0, 0) for number in range(5)]
            calls.append((draws.below(20), 20, 1, 0, 0, draws.below(5)))
            met.append(self.beside(1, calls)[0])
        self.assertIn(-28, met)
        self.assertIn(-33, met)
        self.assertTrue(any(number > 0 for number in met))

    def test_what_is_told_explains_longer_histories(self):
        draws = Draws(3)
        explained = 0
        for turn in range(600):
            kind = turn % 4
            calls = drawn_calls(draws, kind, 16)
            given = order(kind, history(*calls))
            if given[0] >= 0:
                explained += len(calls) > 8
                self.assertEqual(given[0], len(given) - 1)
                self.assertTrue(explains(kind, calls, given[1:]), (kind, calls, given))
        self.assertGreater(explained, 50)


if __name__ == "__main__":
    unittest.main()
