"""Promise 3, of run and clear."""

import unittest

from tests.calls import (
    FAR, all_of, ask, begin, choose, clear, coin, lay, lift, many, mean, replies, reply, run, table, want
)

# Little wished: coin 0 first is laid as 1 (4 is less than 10 by 2), coin 1 first leaves 0 as the best for coin 0.
BY_ORDER = [begin(2), all_of(10, 0, 3), all_of(4, 1)]
NONE_LAID = [3, -1, -1, -1, 0]


class Run(unittest.TestCase):
    def test_a_row_of_no_number(self):
        for n in (1, 2, 10):
            self.assertEqual(reply(begin(n), run()), [n, *([-1] * n)])
        self.assertEqual(reply(begin(3), lay(1, 1), run()), [2, -1, 1, -1])
        self.assertEqual(reply(begin(1), lay(0, 0), run()), [0, 0])

    def test_how_long_the_row_may_be(self):
        for length in (1, 19, 20):
            self.assertEqual(reply(begin(3), all_of(-1, 3), run(*([1] * length))), [2, -1, 1, -1])
        for length in (21, 22, 70):
            row = [k % 3 for k in range(length)]
            self.assertEqual(replies(begin(3), run(*row), table()), [[0], [-22], NONE_LAID])

    def test_twenty_numbers_of_ten_coins(self):
        row = [*range(10), *range(10)]
        self.assertEqual(reply(begin(10), want(1), many(1, 10, *range(10)), run(*row)), [0, *([1] * 10)])

    def test_which_coins_there_are(self):
        for n in range(1, 11):
            laid = [-1] * (n - 1)
            self.assertEqual(reply(begin(n), run(n - 1)), [n - 1, *laid, 0])
            for i in (-1, n, 2 * n, *FAR):
                self.assertEqual(reply(begin(n), run(i)), [-22])

    def test_a_refused_run_lays_nothing(self):
        for wrong in (-1, 3, *FAR):
            for row in ((wrong,), (wrong, 0, 1), (0, wrong, 1), (0, 1, 2, wrong)):
                self.assertEqual(replies(begin(3), run(*row), table()), [[0], [-22], NONE_LAID])
        line = [begin(3), lay(1, 1), run(0, 2, 3), run(*([0] * 21)), table()]
        self.assertEqual(reply(*line), [3, -1, 1, -1, 0])

    def test_little_and_much(self):
        terms = [all_of(3, 1), all_of(-3, 3), all_of(3, 4), many(-2, 1, 3)]
        self.assertEqual(reply(begin(4), *terms, run(0, 1, 2, 3)), [0, 0, 1, 1, 1])
        self.assertEqual(reply(begin(4), *terms, want(1), run(0, 1, 2, 3)), [0, 1, 0, 0, 0])
        self.assertEqual(reply(begin(4), *terms, want(1), run(0, 2)), [2, 1, -1, 0, -1])

    def test_the_order_counts(self):
        self.assertEqual(reply(*BY_ORDER, run(0, 1)), [0, 1, 0])
        self.assertEqual(reply(*BY_ORDER, run(1, 0)), [0, 0, 0])
        self.assertEqual(replies(*BY_ORDER, run(1), run(0))[3:], [[1, -1, 0], [0, 0, 0]])

    def test_a_coin_told_twice_is_laid_once(self):
        self.assertEqual(reply(*BY_ORDER, run(0, 0)), [1, 1, -1])
        self.assertEqual(reply(*BY_ORDER, run(0, 1, 0)), [0, 1, 0])
        self.assertEqual(reply(*BY_ORDER, run(0, 1, 1, 0)), [0, 1, 0])
        self.assertEqual(reply(*BY_ORDER, run(1, 0, 1)), [0, 0, 0])
        # Once coin 1 is 0, coin 0 would be laid as 0: it stays as it was laid first.
        self.assertEqual(replies(*BY_ORDER, run(0, 1, 0), lift(0), run(0))[3:], [[0, 1, 0], [0], [0, 0, 0]])

    def test_coins_that_are_laid_stay(self):
        for v in (0, 1):
            for w in (-100, 100):
                line = [begin(2), all_of(w, 1), all_of(w, 3), lay(0, v)]
                self.assertEqual(reply(*line, run(0)), [1, v, -1])
                self.assertEqual(reply(*line, run(0, 1)), [0, v, int(w < 0)])
                self.assertEqual(reply(*line, run(1, 0)), [0, v, int(w < 0)])

    def test_what_is_laid_counts_for_the_others(self):
        line = [begin(2), coin(0, 0, 1), all_of(-5, 1, 3), all_of(3, 3)]
        self.assertEqual(reply(*line, run(1)), [1, -1, 0])
        self.assertEqual(reply(*line, lay(0, 1), run(1)), [0, 1, 1])

    def test_it_is_laid_afterwards(self):
        line = [begin(3), all_of(-1, 3), run(1, 2)]
        self.assertEqual(replies(*line, lay(1, 0), choose(2), lift(0), lift(1), table())[3:], [
            [-17], [-17], [-33], [0], [3, -1, -1, 0, 1, -1, -1, 1, 3]
        ])

    def test_as_choose_one_by_one(self):
        line = [begin(4), coin(2, 3, 7), all_of(5, 1, 4), many(-6, 2, 0, 2, 3), all_of(4, 5, 3), want(1)]
        for order in ((0, 1, 2, 3), (3, 1, 0, 2), (2, 3, 1, 0)):
            chosen = dict(zip(order, ask(*line, *[choose(i) for i in order])[6:]))
            self.assertEqual(reply(*line, run(*order)), [0, *[chosen[i] for i in range(4)]])

    def test_means_alike_and_a_coin_that_no_term_looks_at(self):
        for s in (0, 1):
            self.assertEqual(reply(begin(3), want(s), run(2, 1, 0)), [0, 0, 0, 0])
            self.assertEqual(reply(begin(3), want(s), all_of(7, 2, 3), many(7, 0, 0), run(0, 1, 2)), [0, 0, 0, 0])


class Clear(unittest.TestCase):
    def test_how_many_were_laid(self):
        for n in (1, 4, 10):
            for many_laid in range(n + 1):
                line = [begin(n), *[lay(i, i % 2) for i in range(many_laid)]]
                given = replies(*line, clear(), table(), clear())[-3:]
                self.assertEqual(given, [[many_laid], [n, *([-1] * n), 0], [0]])

    def test_after_a_run(self):
        self.assertEqual(replies(begin(3), run(2, 0), clear(), run())[2:], [[2], [3, -1, -1, -1]])
        self.assertEqual(replies(begin(3), run(0, 1, 2), clear(), clear())[2:], [[3], [0]])

    def test_only_what_is_laid_goes(self):
        line = [begin(2), coin(0, 1, 3), all_of(6, 1), many(5, 0, 1), want(1), lay(0, 1), lay(1, 0)]
        self.assertEqual(replies(*line, mean(), clear(), mean(), want(0))[7:], [[0, 11, 1], [2], [0, 7, 1], [1]])
        self.assertEqual(reply(*line, clear(), table()), [2, -1, -1, 2, 6, -1, 1, 1, 5, 0, 1, 1])

    def test_then_coins_may_be_laid_again(self):
        self.assertEqual(ask(begin(2), lay(0, 1), clear(), lift(0), lay(0, 0), lay(0, 1)), [0, 0, 1, -33, 0, -17])
