"""Promise 3, of lay, lift and choose."""

import random
import unittest

from tests.calls import FAR, all_of, ask, begin, choose, coin, drop, last, lay, lift, many, want
from tests.slow_model import comes_to
from tests.some_line import some_line

NO_COINS = (-1, 3, *FAR)
NO_VALUES = (-1, 2, *FAR)


class Lay(unittest.TestCase):
    def test_which_coins_there_are(self):
        for v in (0, 1):
            self.assertEqual(ask(begin(3), lay(0, v), lay(2, v), lay(3, v), lay(-1, v)), [0, 0, 0, -2, -2])

    def test_refusals(self):
        for i in NO_COINS:
            self.assertEqual(ask(begin(3), lay(i, 0), lay(i, 1)), [0, -2, -2])
        for v in NO_VALUES:
            self.assertEqual(ask(begin(3), lay(0, v), lift(0)), [0, -22, -33])
        for first in (0, 1):
            self.assertEqual(ask(begin(3), lay(1, first), lay(1, 0), lay(1, 1)), [0, 0, -17, -17])

    def test_order_of_refusals(self):
        for v in NO_VALUES:
            for i in NO_COINS:
                self.assertEqual(ask(begin(3), lay(i, v)), [0, -2])
            self.assertEqual(ask(begin(3), lay(0, 1), lay(0, v)), [0, 0, -22])

    def test_a_refused_lay_changes_nothing(self):
        line = [begin(2), all_of(-5, 1, 3), all_of(3, 1), lay(1, 1), lay(1, 0), lay(1, 2), lay(2, 0)]
        self.assertEqual(ask(*line, choose(0))[3:], [0, -17, -22, -2, 1])

    def test_what_is_laid_counts_in_the_place_of_the_chance(self):
        for a in (0, 1, 2):
            for v in (0, 1):
                line = [begin(2), coin(1, a, 2), all_of(-5, 1, 3), all_of(3, 1), lay(1, v), choose(0)]
                self.assertEqual(last(*line), v)


class Lift(unittest.TestCase):
    def test_refusals(self):
        for i in NO_COINS:
            self.assertEqual(ask(begin(3), lift(i)), [0, -2])
        self.assertEqual(ask(begin(3), lift(0), lay(0, 0), lift(1), lift(0), lift(0)), [0, -33, 0, -33, 0, -33])

    def test_then_it_may_be_laid_again(self):
        self.assertEqual(ask(begin(1), lay(0, 0), lift(0), lay(0, 1), lay(0, 1)), [0, 0, 0, 0, -17])
        self.assertEqual(ask(begin(1), choose(0), lift(0), choose(0), lift(0)), [0, 0, 0, 0, 0])

    def test_then_its_chance_counts_again(self):
        # By chance coin 1 brings -10 by 5 on the average, less than the 3 that coin 0 costs.
        line = [begin(2), coin(1, 1, 5), all_of(-10, 1, 3), all_of(3, 1), lay(1, 1)]
        self.assertEqual(last(*line, choose(0)), 1)
        self.assertEqual(last(*line, lift(1), choose(0)), 0)

    def test_only_that_coin_is_lifted(self):
        line = [begin(3), lay(0, 1), lay(1, 1), lay(2, 1), lift(1)]
        self.assertEqual(ask(*line, lay(0, 0), lay(2, 0), lay(1, 0))[5:], [-17, -17, 0])


class Choose(unittest.TestCase):
    def test_refusals(self):
        for i in NO_COINS:
            self.assertEqual(ask(begin(3), choose(i)), [0, -2])
        for v in (0, 1):
            self.assertEqual(ask(begin(3), lay(0, v), choose(0), choose(1), choose(1)), [0, 0, -17, 0, -17])

    def test_no_coin_is_named_first(self):
        self.assertEqual(ask(begin(1), lay(0, 1), choose(0), choose(1), choose(-1)), [0, 0, -17, -2, -2])

    def test_it_is_laid_as_it_answers(self):
        for w, v in ((-1, 1), (1, 0)):
            line = [begin(2), all_of(w, 1), choose(0)]
            self.assertEqual(ask(*line, lay(0, v), lay(0, 1 - v), lift(0))[2:], [v, -17, -17, 0])
        # Coin 1 as 1 costs 3, and brings 5 only where coin 0 is 1.
        line = [begin(2), all_of(-1, 1), all_of(-5, 1, 3), all_of(3, 3)]
        self.assertEqual(ask(*line, choose(0), choose(1))[4:], [1, 1])
        self.assertEqual(ask(*line, lay(0, 0), choose(1))[4:], [0, 0])

    def test_little_and_much(self):
        for s in (0, 1):
            for w in (-100, -1, 1, 100):
                much = s == 1
                self.assertEqual(last(begin(1), want(s), all_of(w, 1), choose(0)), int((w > 0) == much))
                self.assertEqual(last(begin(1), want(s), all_of(w, 0), choose(0)), int((w > 0) != much))
                self.assertEqual(last(begin(1), want(s), many(w, 1, 0), choose(0)), int((w > 0) == much))

    def test_means_alike(self):
        for s in (0, 1):
            for terms in (
                [],
                [all_of(7, 3)],
                [many(7, 1, 1, 2)],
                [all_of(0, 1)],
                [all_of(5, 0), all_of(5, 1)],
                [all_of(-10, 1, 3), all_of(5, 1)],
                [many(7, 0, 0, 1)],
                [many(7, 20, 0, 1)],
                [all_of(9, 0, 1)],
            ):
                self.assertEqual(last(begin(3), want(s), *terms, choose(0)), 0)

    def test_alike_by_thirds_and_sevenths(self):
        # 7 by 10 of 3 by 7 of 1 by 3 of 10 is 1: rounded, the means would differ.
        coins = [begin(4), coin(1, 7, 10), coin(2, 3, 7), coin(3, 1, 3)]
        for s in (0, 1):
            for w, less in ((9, True), (11, False)):
                line = [*coins, want(s), all_of(w, 1, 3, 5, 7), all_of(-1, 1), choose(0)]
                self.assertEqual(last(*line), int(less == (s == 0)))
            self.assertEqual(last(*coins, want(s), all_of(10, 1, 3, 5, 7), all_of(-1, 1), choose(0)), 0)

    def test_the_smallest_difference(self):
        # Nine chances of 1 by 10: the means differ by 1 by 1000000000, or by nothing.
        coins = [begin(10), *[coin(i, 1, 10) for i in range(1, 10)]]
        row = [2 * i + 1 for i in range(10)]
        same = [all_of(100, 1), all_of(-100, 1)]
        for s in (0, 1):
            self.assertEqual(last(*coins, want(s), *same, all_of(1, *row), choose(0)), s)
            self.assertEqual(last(*coins, want(s), *same, all_of(-1, *row), choose(0)), 1 - s)
            self.assertEqual(last(*coins, want(s), *same, all_of(1, *row), all_of(-1, *row), choose(0)), 0)

    def test_its_own_chance_does_not_count(self):
        for a, b in ((0, 1), (1, 1), (0, 10), (10, 10), (3, 7)):
            for s in (0, 1):
                for w in (-3, 3):
                    line = [begin(2), coin(0, a, b), want(s), all_of(w, 1, 3), choose(0)]
                    self.assertEqual(last(*line), int((w > 0) == (s == 1)))

    def test_chances_of_0_and_1_of_others(self):
        self.assertEqual(last(begin(2), coin(1, 0, 4), all_of(-100, 1, 3), choose(0)), 0)
        self.assertEqual(last(begin(2), coin(1, 4, 4), all_of(-100, 1, 3), choose(0)), 1)
        self.assertEqual(last(begin(2), coin(1, 4, 4), all_of(-100, 1, 2), choose(0)), 0)
        self.assertEqual(last(begin(2), coin(1, 0, 4), all_of(-100, 1, 2), choose(0)), 1)
        self.assertEqual(last(begin(2), coin(1, 0, 4), lay(1, 1), all_of(-100, 1, 3), choose(0)), 1)
        self.assertEqual(last(begin(2), coin(1, 4, 4), lay(1, 0), all_of(-100, 1, 3), choose(0)), 0)

    def test_a_refused_choice_lays_nothing(self):
        self.assertEqual(ask(begin(1), choose(1), choose(-1), lift(0)), [0, -2, -2, -33])

    def test_after_a_drop(self):
        self.assertEqual(last(begin(1), all_of(-5, 1), all_of(3, 1), drop(0), choose(0)), 0)


class AgainstTheSlowModel(unittest.TestCase):
    def check(self, source, n):
        line, model = some_line(source, n)
        ahead = len(line)
        mean = model.mean()
        left = [i for i in range(n) if model.laid[i] is None]
        source.shuffle(left)
        given = ask(*line, *[choose(i) for i in left])[ahead:]
        self.assertEqual(given, [model.choose(i) for i in left], line)
        end = comes_to(model.terms, model.laid)
        self.assertTrue(end >= mean if model.much else end <= mean, line)

    def test_few_coins(self):
        source = random.Random(1)
        for k in range(600):
            self.check(source, source.randint(1, 5))

    def test_more_coins(self):
        source = random.Random(2)
        for k in range(25):
            self.check(source, source.randint(6, 8))

    def test_ten_coins(self):
        source = random.Random(3)
        for k in range(3):
            self.check(source, 10)

    def test_no_term_is_so_where_the_mean_is_below_1(self):
        # Five threes of six coins, each all 1 or all 0 with 1 by 8: the mean is 5 by 8.
        rows = [(0, 1, 2), (2, 3, 4), (0, 4, 5), (1, 3, 5), (1, 2, 5)]
        terms = [all_of(1, *[2 * i + k % 2 for i in row]) for k, row in enumerate(rows)]
        for order in ((0, 1, 2, 3, 4, 5), (5, 3, 1, 4, 2, 0), (2, 5, 0, 4, 1, 3)):
            given = ask(begin(6), *terms, *[choose(i) for i in order])[6:]
            way = dict(zip(order, given))
            for k, row in enumerate(rows):
                self.assertFalse(all(way[i] == k % 2 for i in row))
