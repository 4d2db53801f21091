"""The refusals, and which of several is answered."""

import unittest

from asifbehind.histories import order, proof, since
from telling import BOX, GREATEST, NEVER, ROW, SET, SORTS, SUM, blocks, call, history, one_by_one

READ = (0, 0, 0, 0)
FALSE = call(40, 41, 0, 0, 0, 99)


class TooMany(unittest.TestCase):
    def test_just_256_places(self):
        self.assertEqual(since(BOX, history(*blocks(8))), [-33])
        self.assertEqual(since(BOX, history(*blocks(7, 7, 1))), [-33])
        self.assertEqual(since(BOX, history(*blocks(8), FALSE)), [0, 41])
        self.assertEqual(since(BOX, history(*blocks(7, 7, 1), FALSE)), [0, 41])

    def test_257_places(self):
        self.assertEqual(since(BOX, history(*blocks(8, 1))), [-28])
        self.assertEqual(since(BOX, history(*blocks(7, 7, 1, 1))), [-28])
        self.assertEqual(since(BOX, history(*blocks(9))), [-28])

    def test_ahead_of_what_a_later_moment_would_tell(self):
        self.assertEqual(since(BOX, history(*blocks(8, 1), FALSE)), [-28])
        self.assertEqual(since(BOX, history(FALSE, *blocks(9))), [-28])

    def test_that_no_order_explains(self):
        told = history(call(0, 1, 0, 0, 0, 99), *[call(1, NEVER, 0)] * 8)
        self.assertEqual(since(BOX, told), [0, 1])
        told = history(call(0, 1, 0, 0, 0, 99), *[call(1, NEVER, 0)] * 9)
        self.assertEqual(since(BOX, told), [-28])

    def test_only_of_what_had_been_seen(self):
        # Each adds what the next one finds: 17 places. But whoever hadn't ended by 10 may have found anything.
        told = [call(0, 10 + at, 0, 1, 0, at) for at in range(16)]
        self.assertEqual(order(SUM, history(*told)), [16] + list(range(16)))
        self.assertEqual(since(SUM, history(*told)), [-28])
        self.assertEqual(since(SUM, history(*told[:9])), [-28])
        self.assertEqual(since(SUM, history(*told[:8])), [-33])
        told = [call(0, 10, 0, 1, 0, at) for at in range(16)]
        self.assertEqual(since(SUM, history(*told)), [-33])

    def test_at_a_moment_that_is_not_the_first(self):
        begun = [call(4, 20, 0, 1, 0, at) for at in range(12)]
        self.assertEqual(since(SUM, history(*begun)), [-33])
        self.assertEqual(since(SUM, history(call(0, 1, 1), call(2, 3, 1), *begun)), [-33])
        self.assertEqual(since(SUM, history(call(0, 1, 1), call(2, 3, 1), call(4, 5, 1), *begun)), [-28])

    def test_an_earlier_moment_that_no_order_explains_is_told(self):
        many = [call(2 + at, 30, 0) for at in range(12)]
        self.assertEqual(since(BOX, history(*many)), [-28])
        self.assertEqual(since(BOX, history(call(0, 1, 0), *many)), [-28])
        self.assertEqual(since(BOX, history(call(0, 1, 0, 0, 0, 99), *many)), [0, 1])
        self.assertEqual(since(BOX, history(*many, call(0, 1, 0, 0, 0, 99))), [0, 1])

    def test_an_earlier_moment_with_256_places_that_no_order_explains_is_told(self):
        early = [call(0, NEVER, 0)] * 8
        many = [call(10, 20, 0)] * 7
        self.assertEqual(since(BOX, history(*early, call(0, 1, 0, 0, 0, 99), *many)), [0, 1])
        self.assertEqual(since(BOX, history(*early, call(0, 1, 0), *many)), [-28])

    def test_none_ended(self):
        # No moment comes at which places would be counted.
        told = history(*[call(0, NEVER, 0, a) for a in range(16)])
        self.assertEqual(order(ROW, told), [-28])
        self.assertEqual(since(ROW, told), [-33])

    def test_each_kind_of_thing(self):
        for kind in SORTS:
            self.assertEqual(since(kind, history(*[call(0, NEVER, 0, 1)] * 15, call(0, 1, 1, 0, 0, 0))), [-28])


class NotRight(unittest.TestCase):
    # Ahead of or behind a wrong call: one history that is -33, one with a moment, one that is -28.
    AROUND = ((), (FALSE,), tuple([call(0, 9, 0)] * 15))

    def test_what_stands_around_is_answered_in_each_way(self):
        self.assertEqual([since(BOX, history(*calls)) for calls in self.AROUND], [[-33], [0, 41], [-28]])

    def test_kind(self):
        self.assertEqual(since(3, history(call(0, 1, 1))), [-33])
        for kind in (4, 5, 255, GREATEST):
            for calls in self.AROUND:
                self.assertEqual(since(kind, history(*calls)), [-22])

    def test_too_many_calls(self):
        self.assertEqual(since(BOX, one_by_one(*[READ] * 16)), [-33])
        for count in (17, 18, 255):
            for lone in (call(0, 1, 0), call(0, NEVER, 0), FALSE):
                self.assertEqual(since(BOX, history(*[lone] * count)), [-22])
            self.assertEqual(since(BOX, one_by_one(*[READ] * count)), [-22])

    def test_though_fewer_had_begun(self):
        told = [call(0, 1, 0, 0, 0, 99)] + [call(2, NEVER, 0)] * 15
        self.assertEqual(since(BOX, history(*told)), [0, 1])
        self.assertEqual(since(BOX, history(*told, call(2, NEVER, 0))), [-22])

    def test_none_of_its_kind_of_thing(self):
        for kind, sorts in SORTS.items():
            self.assertNotEqual(since(kind, history(call(0, 1, sorts - 1))), [-22])
            for what in (sorts, sorts + 1, GREATEST):
                for calls in self.AROUND:
                    self.assertEqual(since(kind, history(*calls, call(50, 51, what))), [-22])
                    self.assertEqual(since(kind, history(call(50, NEVER, what), *calls)), [-22])

    def test_to_before_from(self):
        self.assertEqual(since(BOX, history(call(1, 1, 0))), [-33])
        self.assertEqual(since(BOX, history(call(NEVER, NEVER, 0))), [-33])
        for begin, end in ((1, 0), (GREATEST, 0), (NEVER, NEVER - 1), (100, 99)):
            for calls in self.AROUND:
                self.assertEqual(since(BOX, history(*calls, call(begin, end, 0))), [-22])
                self.assertEqual(since(BOX, history(call(begin, end, 0), *calls)), [-22])

    def test_whichever_call_it_is(self):
        for at in range(16):
            for wrong in (call(2 * at + 1, 2 * at, 0), call(2 * at, 2 * at + 1, 3)):
                calls = [call(2 * turn, 2 * turn + 1, 0) for turn in range(16)]
                calls[at] = wrong
                self.assertEqual(since(BOX, history(*calls)), [-22])


class BesideProof(unittest.TestCase):
    def test_what_no_order_explains_has_a_moment(self):
        for kind, told in ((BOX, blocks(3, 2)), (SET, [call(0, 3, 0, 4, 0, 1), call(0, 4, 1, 4, 0, 1)])):
            false = (50, 60, {BOX: 0, SET: 2}[kind], 0, 0, 99)
            self.assertEqual(since(kind, history(*told)), [-33])
            self.assertEqual(proof(kind, history(*told)), [-33])
            self.assertEqual(since(kind, history(*told, false)), [0, 60])
            self.assertGreater(proof(kind, history(*told, false))[0], 0)


if __name__ == "__main__":
    unittest.main()
