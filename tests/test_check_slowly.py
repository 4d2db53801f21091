"""Check beside a slow answer, over proofs that are right, nearly right and drawn."""

import unittest

from asifbehind.histories import check, proof
from telling import (BOX, ROW, SET, SORTS, SUM, Draws, drawn_calls, every_two_calls, history, in_numbers, slow_check,
                     slow_places, slow_steps)


def drawn_place(draws, kind, calls):
    """A place, or what is nearly one, that may be come to or not."""
    done = draws.below(2 ** len(calls) + (1 if draws.below(10) == 0 else 0))
    count = 1 if kind in (BOX, SUM) and draws.below(20) else draws.below(4)
    held = [draws.below(4) for turn in range(count)]
    return (done, sorted(set(held)) if kind == SET and draws.below(20) else held)


def with_all_behind(kind, calls, places):
    """The places, and all that one comes to from them."""
    places = list(places)
    for place in places:
        places.extend(step for step in slow_steps(kind, calls, place) if step not in places)
    return places


def altered(draws, numbers):
    """The numbers with one of them made another, taken out, put in, or with the end cut off."""
    numbers = list(numbers)
    at, way = draws.below(len(numbers)), draws.below(4)
    if way == 0:
        numbers[at] = draws.below(8)
    elif way == 1:
        numbers.pop(at)
    elif way == 2:
        numbers.insert(at, draws.below(4))
    return numbers if way < 3 else numbers[:at]


class Beside(unittest.TestCase):
    def beside(self, kind, calls, numbers):
        given = check(kind, history(*calls), numbers)
        self.assertEqual(given, slow_check(kind, calls, numbers), (kind, calls, numbers))
        return given[0]

    def met_each(self, met, *wanted):
        # Draws that never came to one of these would show nothing of it.
        self.assertEqual(sorted(set(met)), sorted(wanted))
        for number in wanted:
            self.assertGreater(met.count(number), 20, number)

    def test_two_calls_in_every_way(self):
        for kind, calls in every_two_calls():
            start = (0, [0] if kind in (BOX, SUM) else [])
            places = with_all_behind(kind, calls, [start])
            self.beside(kind, calls, in_numbers(*places))
            self.beside(kind, calls, in_numbers(*places[:-1]))
            self.beside(kind, calls, in_numbers(*places[1:]))

    def test_drawn_places(self):
        draws = Draws(11)
        for kind in SORTS:
            met = []
            for turn in range(800):
                calls = drawn_calls(draws, kind, 4, 3)
                places = [drawn_place(draws, kind, calls) for at in range(draws.below(4))]
                places.insert(0, (0, [0] if kind in (BOX, SUM) else []))
                met.append(self.beside(kind, calls, in_numbers(*places)))
            self.met_each(met, 1, 0, -71)

    def test_drawn_places_with_all_behind_them(self):
        draws = Draws(12)
        for kind in SORTS:
            met = []
            for turn in range(500):
                calls = drawn_calls(draws, kind, 5, 2)
                start = (0, [0] if kind in (BOX, SUM) else [])
                places = [start] + [drawn_place(draws, kind, calls) for at in range(draws.below(3))]
                if slow_check(kind, calls, in_numbers(*places)) != [-71]:
                    places = with_all_behind(kind, calls, places)
                    met.append(self.beside(kind, calls, in_numbers(*places)))
                    if draws.below(2):
                        places.pop(draws.below(len(places)))
                        met.append(self.beside(kind, calls, in_numbers(*places)))
            self.met_each(met, 1, 0)

    def test_altered_proofs(self):
        draws = Draws(13)
        for kind in SORTS:
            met = []
            while len(met) < 600:
                calls = drawn_calls(draws, kind, 6, 3)
                told = proof(kind, history(*calls))
                if told[0] > 0:
                    self.assertEqual(self.beside(kind, calls, told[1:]), 1)
                    met.append(self.beside(kind, calls, altered(draws, told[1:])))
            self.assertGreater(met.count(-71), 100)
            self.assertGreater(met.count(0), 100)

    def test_drawn_numbers(self):
        draws = Draws(14)
        for kind in SORTS:
            met = []
            for turn in range(1500):
                calls = drawn_calls(draws, kind, 3, 2)
                numbers = [draws.below(3) for at in range(draws.below(9))]
                met.append(self.beside(kind, calls, numbers))
            self.assertTrue({0, 1, -71} <= set(met), (kind, set(met)))

    def test_whatever_proof_tells(self):
        draws = Draws(15)
        told = 0
        for turn in range(800):
            kind = turn % 4
            calls = drawn_calls(draws, kind, 16, 6)
            given = proof(kind, history(*calls))
            if given[0] > 0:
                told += 1
                self.assertEqual(check(kind, history(*calls), given[1:]), [1], (kind, calls))
        self.assertGreater(told, 200)

    def test_slow_places_are_taken_where_none_is_whole(self):
        draws = Draws(16)
        met = []
        for turn in range(300):
            calls = drawn_calls(draws, ROW, 5, 3)
            met.append(self.beside(ROW, calls, [number for place in slow_places(ROW, calls) for number in place]))
        self.met_each(met, 1, 0)


if __name__ == "__main__":
    unittest.main()
