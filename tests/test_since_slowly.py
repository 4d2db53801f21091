"""Since beside a slow answer, and beside what order tells of what had been seen."""

import unittest

from asifbehind.histories import order, since
from telling import (NEVER, ROW, SORTS, Draws, drawn_calls, ended, every_two_calls, history, seen_by, slow_since)


class Beside(unittest.TestCase):
    def beside(self, kind, calls):
        given = since(kind, history(*calls))
        self.assertEqual(given, slow_since(kind, calls), (kind, calls))
        return given

    def test_two_calls_in_every_way(self):
        for kind, calls in every_two_calls():
            self.beside(kind, calls)

    def test_drawn_histories(self):
        draws = Draws(21)
        for kind in SORTS:
            met = {"none": 0, "last": 0, "earlier": 0}
            for turn in range(400):
                calls = drawn_calls(draws, kind, 5, 4)
                given = self.beside(kind, calls)
                last = max((calls[number][1] for number in ended(calls)), default=NEVER)
                met["none" if given == [-33] else "last" if given == [0, last] else "earlier"] += 1
            # Draws that never came to one of these would show nothing of it.
            self.assertTrue(all(count > 20 for count in met.values()), (kind, met))

    def test_drawn_histories_with_several_calls_at_a_moment(self):
        draws = Draws(22)
        for kind in SORTS:
            for turn in range(300):
                calls = [(begin // 4, end if end == NEVER else end // 4, what, a, b, answered)
                         for begin, end, what, a, b, answered in drawn_calls(draws, kind, 5, 6)]
                self.beside(kind, calls)

    def test_drawn_histories_about_as_large_as_may_be(self):
        draws = Draws(23)
        met = []
        for turn in range(60):
            calls = [(0, NEVER if draws.below(3) == 0 else 9 + draws.below(2), 0, draws.below(4), 0, 0)
                     for number in range(5)]
            calls.append((draws.below(20), 20, 1, 0, 0, draws.below(5)))
            met.append(tuple(self.beside(ROW, calls)))
        self.assertEqual(sorted(set(met)), [(-33,), (-28,), (0, 20)])

    def test_by_what_order_tells_of_each_moment(self):
        draws = Draws(24)
        met = {"none": 0, "too many": 0, "moment": 0}
        for turn in range(1000):
            kind = turn % 4
            calls = drawn_calls(draws, kind, 16, 9)
            given = since(kind, history(*calls))
            self.assertEqual(given, self.by_order(kind, calls), (kind, calls))
            met["none" if given == [-33] else "too many" if given == [-28] else "moment"] += 1
        self.assertTrue(all(count > 50 for count in met.values()), met)

    def by_order(self, kind, calls):
        for moment in sorted({calls[number][1] for number in ended(calls)}):
            told = order(kind, history(*seen_by(calls, moment)))
            if told[0] < 0:
                return [-28] if told == [-28] else [0, moment]
        return [-33]


if __name__ == "__main__":
    unittest.main()
