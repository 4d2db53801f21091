"""The refusals, and which of several is answered."""

import unittest

from asifbehind.histories import check
from telling import BOX, GREATEST, NEVER, ROW, SET, SORTS, SUM, blocks, call, history, in_numbers, one_by_one

# Of each kind of thing a call that can't have been answered so, and what the thing holds at first.
FALSE = {BOX: call(0, 9, 0, 0, 0, 99), ROW: call(0, 9, 1, 0, 0, 99), SET: call(0, 9, 2, 0, 0, 99),
         SUM: call(0, 9, 1, 0, 0, 99)}
HELD = {BOX: [0], ROW: [], SET: [], SUM: [0]}
START = {kind: in_numbers((0, held)) for kind, held in HELD.items()}
MOST = 24000


class NoPlaces(unittest.TestCase):
    def refused(self, kind, *ends):
        """Each end is refused, by itself and behind or ahead of the start, which would be taken."""
        told = history(FALSE[kind])
        self.assertEqual(check(kind, told, START[kind]), [1])
        for end in ends:
            self.assertEqual(check(kind, told, end), [-71], (kind, end))
            self.assertEqual(check(kind, told, START[kind] + end), [-71], (kind, end))
            self.assertEqual(check(kind, told, START[kind] * 3 + end), [-71], (kind, end))

    def test_end_behind_the_first_number_of_a_place(self):
        for kind in SORTS:
            self.refused(kind, [0], [1], [GREATEST])

    def test_fewer_numbers_than_it_says(self):
        for kind in SORTS:
            self.refused(kind, [0, 1], [0, 2], [0, 2, 5], [0, 3, 5, 6], [0, 9, 1, 2, 3, 4, 5, 6, 7, 8])

    def test_far_fewer_numbers_than_it_says(self):
        for kind in SORTS:
            for count in (1000, 65536, 2 ** 31 - 1, 2 ** 31, GREATEST - 1, GREATEST):
                self.refused(kind, [0, count], [0, count, 0], [0, count, 1, 2, 3])

    def test_one_number_fewer_in_a_long_place(self):
        self.refused(ROW, [0, 1000] + [7] * 999)
        self.refused(SET, [0, 1000] + list(range(999)))
        self.assertEqual(check(ROW, history(FALSE[ROW]), START[ROW] + [0, 1000] + [7] * 1000), [1])
        self.assertEqual(check(SET, history(FALSE[SET]), START[SET] + [0, 1000] + list(range(1000))), [1])

    def test_a_call_that_there_is_not_is_done(self):
        for kind in SORTS:
            places = [in_numbers((done, HELD[kind])) for done in (2, 3, 4, 255, 2 ** 16, 2 ** 31, GREATEST)]
            self.refused(kind, *places)
            for place in places:
                self.assertEqual(check(kind, history(FALSE[kind]), place + START[kind]), [-71])

    def test_first_call_that_there_is_not(self):
        for kind in SORTS:
            for count in range(17):
                told = history(*[FALSE[kind]] * count)
                taken = START[kind] + in_numbers((2 ** count // 2 - 1 if count else 0, HELD[kind]))
                self.assertEqual(check(kind, told, taken), [1 if count else 0])
                for done in (2 ** count, 2 ** count + 1, 2 ** (count + 1) - 1, 2 ** 31, GREATEST):
                    for numbers in (in_numbers((done, HELD[kind])), START[kind] + in_numbers((done, HELD[kind]))):
                        self.assertEqual(check(kind, told, numbers), [-71], (kind, count, done))

    def test_last_call_that_there_is(self):
        told = history(*[FALSE[BOX]] * 16)
        self.assertEqual(check(BOX, told, START[BOX] + [2 ** 16 - 2, 1, 0]), [1])
        self.assertEqual(check(BOX, told, START[BOX] + [2 ** 16 - 1, 1, 0]), [0])
        self.assertEqual(check(BOX, told, START[BOX] + [2 ** 16, 1, 0]), [-71])

    def test_a_box_or_a_sum_that_holds_none_or_several(self):
        for kind in (BOX, SUM):
            self.refused(kind, [0, 0], [1, 0], [0, 2, 0, 0], [0, 2, 1, 2], [0, 3, 0, 1, 2], [0, 9] + [0] * 9)

    def test_a_row_may_hold_what_it_likes(self):
        told = history(FALSE[ROW])
        for held in ([], [0], [0, 0], [5, 4], [4, 5], [GREATEST, 0, GREATEST], [7] * 500, list(range(60, 0, -1))):
            self.assertEqual(check(ROW, told, START[ROW] + in_numbers((0, held))), [1], held)

    def test_a_set_whose_numbers_do_not_rise(self):
        told = history(FALSE[SET])
        for held in ([], [0], [5], [0, 1], [0, GREATEST], [3, 5, 9, 2 ** 31, GREATEST], list(range(500))):
            self.assertEqual(check(SET, told, START[SET] + in_numbers((0, held))), [1], held)
        for held in ([1, 0], [0, 0], [5, 5], [GREATEST, 0], [GREATEST, GREATEST], [1, 2, 2], [1, 1, 2], [1, 3, 2],
                     [3, 1, 2], [1, 2, 3, 2, 4], [2 ** 31, 1], list(range(500)) + [499], [10, 9]):
            self.refused(SET, in_numbers((0, held)))

    def test_in_a_place_that_is_whole_or_not_come_to(self):
        for kind in (BOX, SUM):
            self.assertEqual(check(kind, history(FALSE[kind]), [1, 1, 0]), [0])
            self.assertEqual(check(kind, history(FALSE[kind]), [1, 2, 0, 0]), [-71])
        self.assertEqual(check(SET, history(FALSE[SET]), [1, 2, 0, 1]), [0])
        self.assertEqual(check(SET, history(FALSE[SET]), [1, 2, 1, 0]), [-71])

    def test_wherever_it_stands(self):
        for kind in SORTS:
            for at in range(20):
                for wrong in (in_numbers((2, HELD[kind])), [0, 2, 9, 9] if kind != ROW else [7, 0]):
                    numbers = START[kind] * at + wrong + START[kind] * (20 - at)
                    self.assertEqual(check(kind, history(FALSE[kind]), numbers), [-71])

    def test_no_call(self):
        for kind in SORTS:
            self.assertEqual(check(kind, [], START[kind]), [0])
            self.assertEqual(check(kind, [], in_numbers((1, HELD[kind]))), [-71])
            self.assertEqual(check(kind, [], [0]), [-71])

    def test_more_than_65536_numbers(self):
        # More than are handed in: told by the promise all the same.
        self.assertEqual(check(ROW, history(FALSE[ROW]), [0, 0, 0, 65532] + [7] * 65532), [1])
        self.assertEqual(check(ROW, history(FALSE[ROW]), [0, 0, 0, 65533] + [7] * 65533), [-71])


class TooMany(unittest.TestCase):
    def test_256_are_not(self):
        for kind in SORTS:
            self.assertEqual(check(kind, history(FALSE[kind]), START[kind] * 256), [1])
            self.assertEqual(check(kind, history(FALSE[kind]), in_numbers((1, HELD[kind])) * 256), [0])
            self.assertEqual(check(kind, history(FALSE[kind]), START[kind] * 255 + in_numbers((0, [5]))), [1])

    def test_257_are(self):
        for kind in SORTS:
            for count in (257, 258, 1000):
                self.assertEqual(check(kind, history(FALSE[kind]), START[kind] * count), [-28])
                self.assertEqual(check(kind, history(FALSE[kind]), in_numbers((1, HELD[kind])) * count), [-28])
                self.assertEqual(check(kind, history(FALSE[kind]), in_numbers((0, [5])) * count), [-28])

    def test_257_different_ones(self):
        for kind in SORTS:
            places = [(0, HELD[kind])] + [(0, [100 + at]) for at in range(256)]
            self.assertEqual(check(kind, history(FALSE[kind]), in_numbers(*places[:256])), [1])
            self.assertEqual(check(kind, history(FALSE[kind]), in_numbers(*places)), [-28])

    def test_though_they_would_be_taken(self):
        told = history(*blocks(8), call(9, 9, 0, 0, 0, 99))
        places = [(done, [0]) for done in range(256)]
        self.assertEqual(check(BOX, told, in_numbers(*places)), [1])
        self.assertEqual(check(BOX, told, in_numbers(*places, (0, [0]))), [-28])
        self.assertEqual(check(BOX, told, in_numbers(*places, (0, [5]))), [-28])

    def test_though_they_would_not_be_taken(self):
        for kind in SORTS:
            self.assertEqual(check(kind, [], START[kind] * 256), [0])
            self.assertEqual(check(kind, [], START[kind] * 257), [-28])

    def test_no_places_ahead_of_too_many(self):
        for kind in SORTS:
            told = history(FALSE[kind])
            for count in (255, 256, 257, 300, 1000):
                for wrong in ([0], [0, 9], [0, GREATEST], in_numbers((2, HELD[kind])), in_numbers((GREATEST, [0]))):
                    self.assertEqual(check(kind, told, START[kind] * count + wrong), [-71], (kind, count, wrong))
                    longer = START[kind] * count + wrong + START[kind] * 300
                    self.assertEqual(check(kind, told, longer), [-71], (kind, count, wrong))
        for count in (256, 300):
            self.assertEqual(check(BOX, history(FALSE[BOX]), START[BOX] * count + [0, 2, 0, 0]), [-71])
            self.assertEqual(check(SUM, history(FALSE[SUM]), START[SUM] * count + [0, 0]), [-71])
            self.assertEqual(check(SET, history(FALSE[SET]), START[SET] * count + [0, 2, 3, 3]), [-71])


class AsLongAsMayBe(unittest.TestCase):
    def test_one_long_place(self):
        count = MOST - 4
        for kind, held in ((ROW, [7] * count), (SET, list(range(count)))):
            numbers = in_numbers((0, []), (0, held))
            self.assertEqual(len(numbers), MOST)
            self.assertEqual(check(kind, history(FALSE[kind]), numbers), [1])
            self.assertEqual(check(kind, history(FALSE[kind]), numbers[:-1]), [-71])
            self.assertEqual(check(kind, history(FALSE[kind]), numbers[2:] + [0]), [-71])
            self.assertEqual(check(kind, history(FALSE[kind]), numbers[2:] + [0, 0]), [1])
            # One more comes in by a call that didn't end, and that place isn't told.
            self.assertEqual(check(kind, history(FALSE[kind], call(0, NEVER, 0, 2 ** 31)), numbers), [0])
        self.assertEqual(check(SET, history(FALSE[SET]), numbers[:-1] + [count - 2]), [-71])

    def test_long_places_that_one_comes_to(self):
        held = list(range(1, 5900))
        told = history(call(0, 9, 0, 5, 0, 0), call(0, 9, 1, 0, 0, 2), call(0, 9, 1, 0, 0, 99))
        places = [(0, []), (1, [5]), (0, held), (1, held + [5]), (2, held[1:]), (3, held[1:] + [5])]
        self.assertEqual(check(ROW, told, in_numbers(*places)), [1])
        for at in range(6):
            self.assertEqual(check(ROW, told, in_numbers(*places[:at], *places[at + 1:])), [1 if at == 2 else 0])

    def test_256_long_places(self):
        told = history(*[call(0, NEVER, 1, 1000)] * 7, FALSE[SET])
        places = [(done, held) for done in range(128) for held in ([], list(range(180)))]
        self.assertLessEqual(len(in_numbers(*places)), MOST)
        self.assertEqual(check(SET, told, in_numbers(*places)), [1])
        self.assertEqual(check(SET, told, in_numbers(*places[:-1])), [0])

    def test_most_short_places(self):
        self.assertEqual(check(ROW, history(FALSE[ROW]), [0, 0] * (MOST // 2)), [-28])
        self.assertEqual(check(ROW, history(FALSE[ROW]), [0, 0] * (MOST // 2 - 1) + [0]), [-71])
        self.assertEqual(check(ROW, history(FALSE[ROW]), [0, 0] * (MOST // 2 - 1) + [2, 0]), [-71])
        self.assertEqual(check(BOX, history(FALSE[BOX]), [0, 1, 0] * (MOST // 3)), [-28])
        self.assertEqual(check(BOX, history(FALSE[BOX]), [0, 1, 0] * (MOST // 3 - 1) + [0, 1]), [-71])
        self.assertEqual(check(SUM, history(FALSE[SUM]), [0, 1, GREATEST] * (MOST // 3)), [-28])


class NotRight(unittest.TestCase):
    # Proofs: none, one that may be taken, -71 on several grounds, -28.
    PROOFS = ([], [0, 1, 0], [0, 0], [0], [0, GREATEST], [GREATEST, 1, 0], [0, 1, 0] * 257, [0, 0] * 257,
              [0, 0] * (MOST // 2))

    def test_the_proofs_are_answered_in_each_way(self):
        told = [check(BOX, history(FALSE[BOX]), numbers) for numbers in self.PROOFS]
        self.assertEqual(told, [[0], [1], [-71], [-71], [-71], [-71], [-28], [-71], [-71]])

    def refused(self, kind, *calls):
        for numbers in self.PROOFS:
            self.assertEqual(check(kind, history(*calls), numbers), [-22], (kind, calls))

    def test_kind(self):
        self.assertEqual(check(3, history(FALSE[SUM]), START[SUM]), [1])
        for kind in (4, 5, 255, GREATEST):
            self.refused(kind)
            self.refused(kind, call(0, 1, 0))
            self.refused(kind, FALSE[BOX])

    def test_too_many_calls(self):
        self.assertEqual(check(BOX, history(*[FALSE[BOX]] * 16), START[BOX]), [1])
        for count in (17, 18, 255):
            self.refused(BOX, *[FALSE[BOX]] * count)
            self.refused(ROW, *[call(0, NEVER, 0)] * count)
            self.assertEqual(check(BOX, one_by_one(*[(0, 0, 0, 0)] * count), START[BOX]), [-22])

    def test_none_of_its_kind_of_thing(self):
        for kind, sorts in SORTS.items():
            self.assertEqual(check(kind, history(call(0, 1, sorts - 1, 0, 0, 99)), START[kind]), [1])
            for what in (sorts, sorts + 1, GREATEST):
                self.refused(kind, call(0, 1, what, 0, 0, 99))
                self.refused(kind, FALSE[kind], call(0, NEVER, what))
                self.refused(kind, call(0, NEVER, what), FALSE[kind])

    def test_to_before_from(self):
        self.assertEqual(check(BOX, history(call(1, 1, 0, 0, 0, 99)), START[BOX]), [1])
        for begin, end in ((1, 0), (GREATEST, 0), (NEVER, NEVER - 1), (100, 99)):
            self.refused(BOX, call(begin, end, 0))
            self.refused(BOX, FALSE[BOX], call(begin, end, 0))
            self.refused(BOX, call(begin, end, 0), FALSE[BOX])

    def test_whichever_call_it_is(self):
        for at in range(16):
            for wrong in (call(2 * at + 1, 2 * at, 0), call(2 * at, 2 * at + 1, 3)):
                calls = [call(2 * turn, 2 * turn + 1, 0) for turn in range(16)]
                calls[at] = wrong
                self.refused(BOX, *calls)


if __name__ == "__main__":
    unittest.main()
