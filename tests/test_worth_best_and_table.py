"""Promise 4, of worth, best and table."""

import unittest

from tests.calls import (
    all_of, begin, best, clear, coin, drop, lay, lift, many, mean, replies, reply, run, table, want, worth
)

TERMS = [all_of(7, 1, 3), many(-9, 1, 0, 1, 2), all_of(2, 0), all_of(50, 2, 3), many(4, 0, 1), many(80, 4, 0, 1, 2)]


class Worth(unittest.TestCase):
    def test_a_coin_that_is_not_laid(self):
        for n in range(1, 11):
            laid = [lay(i, i % 2) for i in range(n)]
            self.assertEqual(reply(begin(n), worth()), [-6])
            for i in range(n):
                self.assertEqual(reply(begin(n), *laid[:i], *laid[i + 1:], worth()), [-6])
            self.assertEqual(reply(begin(n), *laid, worth()), [0, 0])

    def test_also_where_no_term_looks_at_it_or_it_is_sure(self):
        self.assertEqual(reply(begin(2), all_of(5, 1), lay(0, 1), worth()), [-6])
        self.assertEqual(reply(begin(1), coin(0, 1, 1), all_of(5, 1), worth()), [-6])
        self.assertEqual(reply(begin(1), lay(0, 1), lift(0), worth()), [-6])
        self.assertEqual(reply(begin(1), lay(0, 1), clear(), worth()), [-6])

    def test_what_it_comes_to(self):
        for laid, expected in (((0, 0, 0), 6), ((1, 0, 0), -5), ((1, 1, 0), 2), ((0, 0, 1), -3), ((1, 1, 1), 2)):
            line = [begin(3), *TERMS, *[lay(i, v) for i, v in enumerate(laid)]]
            self.assertEqual(replies(*line, worth(), want(1), worth())[-3:], [[0, expected], [0], [0, expected]])
            self.assertEqual(reply(*line, mean()), [0, expected, 1])

    def test_the_greatest_and_the_least(self):
        for w in (-100, 100):
            self.assertEqual(reply(begin(1), *([all_of(w, 1, 1)] * 12), lay(0, 1), worth()), [0, 12 * w])

    def test_a_chance_of_0_laid_as_1(self):
        self.assertEqual(reply(begin(1), coin(0, 0, 1), all_of(5, 1), lay(0, 1), worth()), [0, 5])


class Best(unittest.TestCase):
    def test_no_terms(self):
        for n in range(1, 11):
            for s in (0, 1):
                self.assertEqual(reply(begin(n), want(s), best()), [0, 0, *([0] * n)])
        self.assertEqual(reply(begin(3), lay(1, 1), best()), [0, 0, 0, 1, 0])

    def test_little_and_much(self):
        self.assertEqual(reply(begin(3), *TERMS, best()), [0, -5, 1, 0, 0])
        self.assertEqual(reply(begin(3), *TERMS, want(1), best()), [0, 6, 0, 0, 0])
        self.assertEqual(reply(begin(2), all_of(-3, 1), all_of(5, 3), best()), [0, -3, 1, 0])
        self.assertEqual(reply(begin(2), all_of(-3, 1), all_of(5, 3), want(1), best()), [0, 5, 0, 1])

    def test_all_may_be_below_or_above_0(self):
        self.assertEqual(reply(begin(1), all_of(-3, 0), all_of(-8, 1), want(1), best()), [0, -3, 0])
        self.assertEqual(reply(begin(1), all_of(-8, 0), all_of(-3, 1), want(1), best()), [0, -3, 1])
        self.assertEqual(reply(begin(1), all_of(8, 0), all_of(3, 1), best()), [0, 3, 1])

    def test_some_and_all_laid(self):
        line = [begin(3), *TERMS]
        self.assertEqual(reply(*line, lay(0, 0), best()), [0, -3, 0, 0, 1])
        self.assertEqual(reply(*line, lay(1, 1), lay(2, 1), best()), [0, -3, 0, 1, 1])
        self.assertEqual(reply(*line, lay(1, 1), want(1), best()), [0, 2, 1, 1, 0])
        for laid, number in (((0, 0, 0), 6), ((1, 0, 0), -5), ((1, 1, 1), 2)):
            for s in (0, 1):
                laying = [lay(i, v) for i, v in enumerate(laid)]
                self.assertEqual(reply(*line, *laying, want(s), best()), [0, number, *laid])

    def test_the_first_of_several(self):
        for s, w in ((0, -4), (1, 4)):
            self.assertEqual(reply(begin(3), want(s), many(w, 1, 0, 1, 2), best()), [0, w, 0, 0, 1])
            self.assertEqual(reply(begin(3), want(s), many(w, 2, 0, 1, 2), best()), [0, w, 0, 1, 1])
            self.assertEqual(reply(begin(3), want(s), all_of(w, 1, 2), all_of(w, 0, 3), best()), [0, w, 0, 1, 0])
            self.assertEqual(reply(begin(3), want(s), many(w, 1, 0, 1, 2), lay(2, 0), best()), [0, w, 0, 1, 0])
            self.assertEqual(reply(begin(4), want(s), many(w, 1, 0, 1), best()), [0, w, 0, 1, 0, 0])

    def test_chances_do_not_count(self):
        for a in (0, 1, 2):
            self.assertEqual(reply(begin(1), coin(0, a, 2), all_of(-5, 1), best()), [0, -5, 1])

    def test_better_than_one_by_one(self):
        line = [begin(2), all_of(10, 0, 3), all_of(4, 1)]
        self.assertEqual(replies(*line, run(0, 1), worth(), best(), clear(), best())[3:], [
            [0, 1, 0], [0, 4], [0, 4, 1, 0], [2], [0, 0, 0, 0]
        ])

    def test_it_lays_nothing(self):
        line = [begin(3), *TERMS, lay(1, 1), best()]
        self.assertEqual(replies(*line, run(), worth())[-2:], [[2, -1, 1, -1], [-6]])

    def test_ten_coins_and_twelve_terms(self):
        # Ten terms: neighbours among coins 0 to 5 that lie alike cost 10. Coin 0 as 1 brings -1, five as 1 cost 7.
        alike = [all_of(10, 2 * i + v, 2 * i + 2 + v) for i in range(5) for v in (0, 1)]
        line = [begin(10), *alike, all_of(-1, 1), many(7, 5, *range(10))]
        self.assertEqual(reply(*line, best()), [0, -1, 1, 0, 1, 0, 1, 0, 0, 0, 0, 0])
        self.assertEqual(reply(*line, lay(0, 0), best()), [0, 0, 0, 1, 0, 1, 0, 1, 0, 0, 0, 0])
        # Much wished: with coins 0 to 5 as 0 the 7 is out of reach, so all six are 1 in spite of the -1.
        self.assertEqual(reply(*line, want(1), best()), [0, 56, 1, 1, 1, 1, 1, 1, 0, 0, 0, 0])
        self.assertEqual(reply(*line, want(1), lay(0, 0), best()), [0, 50, 0, 0, 0, 0, 0, 0, 0, 0, 0, 0])

    def test_the_last_way_of_all(self):
        self.assertEqual(reply(begin(10), *([many(-100, 10, *range(10))] * 12), best()), [0, -1200, *([1] * 10)])


class Table(unittest.TestCase):
    def test_new(self):
        for n in range(1, 11):
            self.assertEqual(reply(begin(n), table()), [n, *([-1] * n), 0])

    def test_some_and_all_laid(self):
        self.assertEqual(reply(begin(3), lay(0, 0), lay(2, 1), table()), [3, 0, -1, 1, 0])
        self.assertEqual(reply(begin(2), lay(0, 1), lay(1, 0), table()), [2, 1, 0, 0])
        self.assertEqual(reply(begin(2), lay(0, 1), lay(1, 0), lift(0), table()), [2, -1, 0, 0])

    def test_terms_of_both_sorts(self):
        line = [begin(3), all_of(-100, 5, 0), many(100, 0, 0, 2), many(0, 20, 1), all_of(7, 3), lay(1, 1)]
        self.assertEqual(reply(*line, table()), [
            3, -1, 1, -1, 4, -100, -1, 2, 5, 0, 100, 0, 2, 0, 2, 0, 20, 1, 1, 7, -1, 1, 3
        ])

    def test_the_row_stands_as_it_was_told(self):
        self.assertEqual(reply(begin(2), all_of(4, 3, 0, 3, 3), table()), [2, -1, -1, 1, 4, -1, 4, 3, 0, 3, 3])
        self.assertEqual(reply(begin(1), all_of(4, 1, 0, 1), table()), [1, -1, 1, 4, -1, 3, 1, 0, 1])
        self.assertEqual(reply(begin(1), all_of(4, *([1] * 20)), table()), [1, -1, 1, 4, -1, 20, *([1] * 20)])

    def test_after_a_drop(self):
        line = [begin(2), all_of(1, 0), many(2, 1, 0, 1), all_of(3, 3)]
        rows = [[1, -1, 1, 0], [2, 1, 2, 0, 1], [3, -1, 1, 3]]
        for j in range(3):
            left = [number for k, row in enumerate(rows) if k != j for number in row]
            self.assertEqual(reply(*line, drop(j), table()), [2, -1, -1, 2, *left])
        self.assertEqual(reply(*line, drop(1), many(-5, 2, 1), table()), [
            2, -1, -1, 3, 1, -1, 1, 0, 3, -1, 1, 3, -5, 2, 1, 1
        ])

    def test_refused_terms_are_not_there(self):
        line = [begin(2), all_of(101, 0), all_of(1), many(1, 21, 0), many(1, 1, 1, 0)]
        self.assertEqual(reply(*line, table()), [2, -1, -1, 0])

    def test_ten_coins_and_twelve_full_terms(self):
        row = list(range(20))
        line = [begin(10), *([all_of(-1, *row)] * 12), all_of(-1, *row), table()]
        self.assertEqual(reply(*line), [10, *([-1] * 10), 12, *([-1, -1, 20, *row] * 12)])

    def test_asking_changes_nothing(self):
        line = [begin(2), all_of(1, 0), lay(0, 1), table()]
        self.assertEqual(reply(*line, table(), table()), reply(*line))
