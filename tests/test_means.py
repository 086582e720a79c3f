"""Promise 4, of mean, meanif, swing and chance."""

import unittest

from tests.calls import (
    FAR, all_of, begin, chance, choose, clear, coin, drop, lay, lift, many, mean, meanif, replies, reply, swing,
    table, want
)

NO_COINS = (-1, 3, *FAR)
NO_VALUES = (-1, 2, *FAR)
THREE = [begin(3), coin(0, 1, 3), coin(1, 3, 4), coin(2, 2, 5)]
TEN = [begin(10), *[coin(i, 1, 10) for i in range(10)]]
ALL_TEN = [2 * i + 1 for i in range(10)]


class Mean(unittest.TestCase):
    def test_no_terms(self):
        for n in range(1, 11):
            self.assertEqual(reply(begin(n), mean()), [0, 0, 1])
            self.assertEqual(reply(begin(n), want(1), lay(0, 1), mean()), [0, 0, 1])

    def test_one_coin(self):
        for w in (-100, -3, -2, -1, 0, 1, 2, 3, 100):
            expected = [0, w, 2] if w % 2 else [0, w // 2, 1]
            for term in (all_of(w, 0), all_of(w, 1), many(w, 1, 0)):
                self.assertEqual(reply(begin(1), term, mean()), expected)

    def test_chances_of_0_and_1(self):
        for b in (1, 2, 10):
            for w in (-7, 7):
                self.assertEqual(reply(begin(1), coin(0, 0, b), all_of(w, 1), mean()), [0, 0, 1])
                self.assertEqual(reply(begin(1), coin(0, b, b), all_of(w, 1), mean()), [0, w, 1])
                self.assertEqual(reply(begin(1), coin(0, 0, b), all_of(w, 0), mean()), [0, w, 1])
                self.assertEqual(reply(begin(1), coin(0, b, b), all_of(w, 0), mean()), [0, 0, 1])

    def test_lower_numbers_that_differ(self):
        self.assertEqual(reply(*THREE, all_of(1, 1, 3, 5), mean()), [0, 1, 10])
        self.assertEqual(reply(*THREE, all_of(7, 1, 3, 5), mean()), [0, 7, 10])
        self.assertEqual(reply(*THREE, all_of(1, 0, 2, 4), mean()), [0, 1, 10])
        self.assertEqual(reply(*THREE, all_of(1, 1), all_of(1, 3), all_of(1, 5), mean()), [0, 89, 60])
        self.assertEqual(reply(*THREE, all_of(1, 1), all_of(-1, 3), mean()), [0, -5, 12])
        # Just two are 1 in (1*3*3 + 1*1*2 + 2*3*2) by 60, all three in 6 by 60.
        self.assertEqual(reply(*THREE, many(1, 2, 0, 1, 2), mean()), [0, 29, 60])
        self.assertEqual(reply(*THREE, many(1, 3, 0, 1, 2), many(-1, 2, 0, 1, 2), mean()), [0, -23, 60])

    def test_lowest_terms(self):
        for a in range(11):
            for b in range(max(a, 1), 11):
                upper, lower = reply(begin(1), coin(0, a, b), all_of(12, 1), mean())[1:]
                self.assertEqual(upper * b, 12 * a * lower)
                self.assertGreaterEqual(lower, 1)
                self.assertFalse([k for k in range(2, 11) if upper % k == 0 and lower % k == 0])
        self.assertEqual(reply(begin(2), all_of(-4, 1, 3), mean()), [0, -1, 1])
        self.assertEqual(reply(begin(2), all_of(-6, 1, 3), mean()), [0, -3, 2])

    def test_what_cancels_is_0_1(self):
        self.assertEqual(reply(*THREE, all_of(5, 1, 3), all_of(-5, 3, 1), mean()), [0, 0, 1])
        self.assertEqual(reply(*THREE, all_of(0, 1), mean()), [0, 0, 1])

    def test_the_smallest_and_the_largest(self):
        self.assertEqual(reply(*TEN, all_of(1, *ALL_TEN), mean()), [0, 1, 10000000000])
        self.assertEqual(reply(*TEN, all_of(-100, *ALL_TEN), mean()), [0, -1, 100000000])
        self.assertEqual(reply(*TEN, *([many(100, 0, 3)] * 12), mean()), [0, 1200, 1])
        self.assertEqual(reply(*TEN, *([many(-100, 1, *range(10))] * 12), mean()), [0, -19539646797, 25000000])

    def test_both_of_one_coin_and_a_number_told_twice(self):
        self.assertEqual(reply(*THREE, all_of(9, 0, 1), mean()), [0, 0, 1])
        for v in (0, 1):
            self.assertEqual(reply(*THREE, all_of(9, 0, 1), lay(0, v), mean()), [0, 0, 1])
        self.assertEqual(reply(*THREE, all_of(9, 3, 1, 3, 1), mean()), [0, 9, 4])

    def test_some_laid(self):
        line = [*THREE, all_of(7, 1, 3, 5)]
        self.assertEqual(reply(*line, lay(0, 1), mean()), [0, 21, 10])
        self.assertEqual(reply(*line, lay(0, 0), mean()), [0, 0, 1])
        self.assertEqual(reply(*line, lay(0, 1), lay(2, 1), mean()), [0, 21, 4])
        self.assertEqual(reply(*line, lay(0, 1), lay(2, 1), lift(0), mean()), [0, 7, 4])
        self.assertEqual(reply(*line, lay(0, 1), clear(), mean()), [0, 7, 10])

    def test_all_laid(self):
        line = [*THREE, all_of(7, 1, 3, 5), many(-9, 1, 0, 1, 2), all_of(2, 0)]
        for laid, expected in (((1, 1, 1), -2), ((0, 1, 1), -7), ((1, 0, 0), -9), ((0, 0, 0), 2)):
            self.assertEqual(reply(*line, *[lay(i, v) for i, v in enumerate(laid)], mean()), [0, expected, 1])

    def test_a_chance_of_0_laid_as_1(self):
        self.assertEqual(reply(begin(1), coin(0, 0, 3), all_of(5, 1), lay(0, 1), mean()), [0, 5, 1])
        self.assertEqual(reply(begin(1), coin(0, 3, 3), all_of(5, 0), lay(0, 0), mean()), [0, 5, 1])

    def test_a_coin_that_no_term_looks_at(self):
        for a, b in ((0, 7), (3, 7), (7, 7)):
            self.assertEqual(reply(begin(2), coin(1, a, b), all_of(5, 1), mean()), [0, 5, 2])

    def test_what_is_wished_does_not_count(self):
        self.assertEqual(reply(*THREE, all_of(7, 1), want(1), mean()), reply(*THREE, all_of(7, 1), mean()))

    def test_after_a_drop(self):
        self.assertEqual(reply(*THREE, all_of(7, 1), all_of(5, 3), drop(0), mean()), [0, 15, 4])


class MeanIf(unittest.TestCase):
    def test_what_the_mean_would_be(self):
        line = [*THREE, all_of(7, 1, 3, 5), all_of(-1, 0)]
        for i in range(3):
            for v in (0, 1):
                self.assertEqual(reply(*line, meanif(i, v)), reply(*line, lay(i, v), mean()))
        self.assertEqual(reply(*line, meanif(0, 1)), [0, 21, 10])
        self.assertEqual(reply(*line, meanif(0, 0)), [0, -1, 1])
        self.assertEqual(reply(*line, meanif(1, 0)), [0, -2, 3])

    def test_by_what_is_laid(self):
        line = [*THREE, all_of(7, 1, 3, 5), lay(1, 1)]
        self.assertEqual(reply(*line, meanif(0, 1)), [0, 14, 5])
        self.assertEqual(reply(*line, meanif(2, 1)), [0, 7, 3])
        self.assertEqual(reply(*line, lay(2, 1), meanif(0, 1)), [0, 7, 1])

    def test_its_own_chance_does_not_count(self):
        for a in range(4):
            self.assertEqual(reply(begin(1), coin(0, a, 3), all_of(5, 1), meanif(0, 1)), [0, 5, 1])
            self.assertEqual(reply(begin(1), coin(0, a, 3), all_of(5, 1), meanif(0, 0)), [0, 0, 1])

    def test_refusals(self):
        for i in NO_COINS:
            for v in (0, 1, *NO_VALUES):
                self.assertEqual(reply(begin(3), meanif(i, v)), [-2])
        for v in NO_VALUES:
            self.assertEqual(reply(begin(3), meanif(0, v)), [-22])
            self.assertEqual(reply(begin(3), lay(0, 1), meanif(0, v)), [-22])
        for first in (0, 1):
            for v in (0, 1):
                self.assertEqual(reply(begin(3), lay(0, first), meanif(0, v)), [-17])
                self.assertEqual(reply(begin(3), lay(0, first), meanif(1, v)), [0, 0, 1])

    def test_it_lays_nothing(self):
        line = [*THREE, all_of(7, 1), lay(2, 1)]
        asked = [meanif(0, 1), meanif(0, 0), meanif(1, 1), meanif(2, 0), meanif(3, 0), meanif(0, 2)]
        self.assertEqual(reply(*line, *asked, table()), reply(*line, table()))
        self.assertEqual(reply(*line, *asked, mean()), reply(*line, mean()))


class Swing(unittest.TestCase):
    def test_above_at_and_below_0(self):
        line = [begin(3), coin(1, 1, 3), all_of(6, 1), all_of(-5, 1, 3), all_of(4, 4), many(-3, 0, 2)]
        self.assertEqual(reply(*line, swing(0)), [0, 13, 3])
        self.assertEqual(reply(*line, swing(1)), [0, -5, 2])
        self.assertEqual(reply(*line, swing(2)), [0, -4, 1])
        self.assertEqual(reply(begin(2), all_of(6, 1), swing(1)), [0, 0, 1])
        self.assertEqual(reply(begin(2), swing(0)), [0, 0, 1])

    def test_by_what_is_laid(self):
        line = [begin(2), coin(1, 1, 3), all_of(6, 1), all_of(-7, 1, 3)]
        self.assertEqual(reply(*line, swing(0)), [0, 11, 3])
        self.assertEqual(reply(*line, lay(1, 1), swing(0)), [0, -1, 1])
        self.assertEqual(reply(*line, lay(1, 0), swing(0)), [0, 6, 1])

    def test_its_own_chance_and_what_is_wished_do_not_count(self):
        for a, b in ((0, 1), (2, 7), (7, 7)):
            for s in (0, 1):
                line = [begin(2), coin(0, a, b), want(s), all_of(-6, 0), all_of(3, 1, 3), swing(0)]
                self.assertEqual(reply(*line), [0, 15, 2])

    def test_the_smallest(self):
        self.assertEqual(reply(*TEN, all_of(-1, *ALL_TEN), swing(4)), [0, -1, 1000000000])

    def test_refusals(self):
        for i in NO_COINS:
            self.assertEqual(reply(begin(3), swing(i)), [-2])
        for v in (0, 1):
            self.assertEqual(replies(begin(3), lay(1, v), swing(1), swing(3), swing(0))[2:], [[-17], [-2], [0, 0, 1]])

    def test_it_lays_nothing(self):
        line = [begin(2), all_of(6, 1), lay(1, 1), swing(0), swing(1), swing(2)]
        self.assertEqual(reply(*line, table()), [2, -1, 1, 1, 6, -1, 1, 1])

    def test_it_tells_what_choose_lays(self):
        for w in (-3, 0, 3):
            line = [begin(2), all_of(w, 1, 3)]
            self.assertEqual(replies(*line, swing(0), choose(0))[2:], [[0, w, 2] if w else [0, 0, 1], [int(w < 0)]])


class Chance(unittest.TestCase):
    def test_all(self):
        self.assertEqual(reply(*THREE, all_of(-50, 1), chance(0)), [0, 1, 3])
        self.assertEqual(reply(*THREE, all_of(0, 0), chance(0)), [0, 2, 3])
        self.assertEqual(reply(*THREE, all_of(1, 1, 2, 5), chance(0)), [0, 1, 30])
        self.assertEqual(reply(*THREE, all_of(1, 1, 3, 3, 1), chance(0)), [0, 1, 4])

    def test_both_of_one_coin(self):
        for row in ((0, 1), (3, 2), (1, 4, 5, 1)):
            self.assertEqual(reply(*THREE, all_of(1, *row), chance(0)), [0, 0, 1])
            for v in (0, 1):
                laid = [lay(i, v) for i in range(3)]
                self.assertEqual(reply(*THREE, all_of(1, *row), *laid, chance(0)), [0, 0, 1])

    def test_many(self):
        for t, expected in ((1, [0, 9, 10]), (2, [0, 29, 60]), (3, [0, 1, 10]), (4, [0, 0, 1]), (20, [0, 0, 1])):
            self.assertEqual(reply(*THREE, many(-7, t, 0, 1, 2), chance(0)), expected)
        self.assertEqual(reply(*THREE, many(1, 1, 0, 2), chance(0)), [0, 3, 5])

    def test_many_with_t_0(self):
        self.assertEqual(reply(*THREE, many(-7, 0, 0, 2), chance(0)), [0, 1, 1])
        self.assertEqual(reply(begin(1), coin(0, 0, 1), many(0, 0, 0), chance(0)), [0, 1, 1])
        self.assertEqual(reply(begin(1), many(5, 0, 0), lay(0, 0), chance(0)), [0, 1, 1])

    def test_many_with_t_above_how_many(self):
        for t in (3, 4, 20):
            self.assertEqual(reply(*THREE, many(1, t, 0, 2), chance(0)), [0, 0, 1])
            self.assertEqual(reply(*THREE, many(1, t, 0, 2), lay(0, 1), lay(2, 1), chance(0)), [0, 0, 1])
        self.assertEqual(reply(*THREE, many(1, 2, 0, 2), lay(0, 1), lay(2, 1), chance(0)), [0, 1, 1])

    def test_by_what_is_laid(self):
        line = [*THREE, many(1, 2, 0, 1, 2), all_of(1, 1, 5)]
        self.assertEqual(replies(*line, lay(0, 1), chance(0), chance(1))[7:], [[0, 17, 20], [0, 2, 5]])
        self.assertEqual(replies(*line, lay(0, 0), chance(0), chance(1))[7:], [[0, 3, 10], [0, 0, 1]])

    def test_the_smallest(self):
        self.assertEqual(reply(*TEN, all_of(100, *ALL_TEN), chance(0)), [0, 1, 10000000000])

    def test_no_such_term(self):
        self.assertEqual(replies(begin(1), chance(0), chance(-1))[1:], [[-2], [-2]])
        line = [*THREE, all_of(1, 1), all_of(1, 3)]
        for j in (-1, 2, 12, *FAR):
            self.assertEqual(reply(*line, chance(j)), [-2])
        self.assertEqual(replies(*line, chance(0), chance(1), drop(0), chance(0), chance(1))[6:], [
            [0, 1, 3], [0, 3, 4], [1], [0, 3, 4], [-2]
        ])

    def test_the_twelfth(self):
        line = [*THREE, *([all_of(1, 1)] * 11), all_of(1, 3)]
        self.assertEqual(replies(*line, chance(10), chance(11), chance(12))[-3:], [[0, 1, 3], [0, 3, 4], [-2]])
