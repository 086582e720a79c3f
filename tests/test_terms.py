"""Promise 2."""

import unittest

from tests.calls import FAR, all_of, ask, begin, choose, coin, drop, last, lay, many, want


class AllTerms(unittest.TestCase):
    def test_weights(self):
        for w, expected in ((-101, -22), (-100, 0), (0, 0), (100, 0), (101, -22)):
            self.assertEqual(ask(begin(1), all_of(w, 0)), [0, expected])
        for w in FAR:
            self.assertEqual(ask(begin(1), all_of(w, 0)), [0, -22])

    def test_how_long_the_row_is(self):
        for length, expected in ((0, -22), (1, 0), (19, 0), (20, 0), (21, -22), (70, -22)):
            row = [k % 6 for k in range(length)]
            self.assertEqual(ask(begin(3), all_of(1, *row), want(0)), [0, expected, 0])

    def test_what_may_be_told(self):
        for n in range(1, 11):
            for told, expected in ((-1, -22), (0, 0), (2 * n - 1, 0), (2 * n, -22)):
                self.assertEqual(ask(begin(n), all_of(1, told)), [0, expected])
                self.assertEqual(ask(begin(n), all_of(1, 0, 1, told)), [0, expected])
                self.assertEqual(ask(begin(n), all_of(1, told, 1, 0)), [0, expected])
        for told in FAR:
            self.assertEqual(ask(begin(10), all_of(1, told)), [0, -22])

    def test_a_number_told_twice_is_told_once(self):
        # Coin 0 as 1 brings -8 by 2 and 3; were coin 1 counted twice, it would bring -8 by 4 and 3.
        for row in ((1, 3), (1, 3, 3), (3, 1, 3, 1), (1, 1, 1, 3)):
            self.assertEqual(last(begin(2), all_of(-8, *row), all_of(3, 1), choose(0)), 1)

    def test_both_of_one_coin_is_never_so(self):
        for row in ((1, 2, 3), (2, 3, 1), (1, 3, 2, 3)):
            self.assertEqual(ask(begin(2), all_of(-100, *row), all_of(1, 1), choose(0)), [0, 0, 1, 0])
        self.assertEqual(ask(begin(1), all_of(-100, 1, 0), all_of(1, 1), choose(0)), [0, 0, 1, 0])
        self.assertEqual(ask(begin(1), all_of(-100, 1, 0), all_of(-1, 1), choose(0)), [0, 0, 1, 1])
        for v in (0, 1):
            self.assertEqual(last(begin(2), all_of(-100, 1, 2, 3), all_of(1, 1), lay(1, v), choose(0)), 0)

    def test_even_numbers_ask_for_0_and_odd_ones_for_1(self):
        for i in range(4):
            self.assertEqual(ask(begin(4), all_of(-1, 2 * i), choose(i)), [0, 0, 0])
            self.assertEqual(ask(begin(4), all_of(1, 2 * i), choose(i)), [0, 0, 1])
            self.assertEqual(ask(begin(4), all_of(-1, 2 * i + 1), choose(i)), [0, 0, 1])
            self.assertEqual(ask(begin(4), all_of(1, 2 * i + 1), choose(i)), [0, 0, 0])


class ManyTerms(unittest.TestCase):
    def test_weights(self):
        for w, expected in ((-101, -22), (-100, 0), (0, 0), (100, 0), (101, -22)):
            self.assertEqual(ask(begin(1), many(w, 1, 0)), [0, expected])
        for w in FAR:
            self.assertEqual(ask(begin(1), many(w, 1, 0)), [0, -22])

    def test_how_many_are_asked_for(self):
        for t, expected in ((-1, -22), (0, 0), (1, 0), (20, 0), (21, -22)):
            self.assertEqual(ask(begin(2), many(1, t, 0, 1)), [0, expected])
        for t in FAR:
            self.assertEqual(ask(begin(2), many(1, t, 0, 1)), [0, -22])

    def test_how_long_the_row_is(self):
        self.assertEqual(ask(begin(10), many(1, 1), many(1, 1, *range(10))), [0, -22, 0])
        for length in (11, 20, 21, 70):
            self.assertEqual(ask(begin(10), many(1, 1, *range(length)), want(0)), [0, -22, 0])
            self.assertEqual(ask(begin(10), many(1, 1, *([0] * length)), want(0)), [0, -22, 0])

    def test_which_coins_there_are(self):
        for n in range(1, 11):
            for i, expected in ((-1, -22), (0, 0), (n - 1, 0), (n, -22), (2 * n, -22)):
                self.assertEqual(ask(begin(n), many(1, 1, i)), [0, expected])
        self.assertEqual(ask(begin(3), many(1, 1, -1, 0, 1), many(1, 1, 0, 1, 3)), [0, -22, -22])
        for i in FAR:
            self.assertEqual(ask(begin(10), many(1, 1, i)), [0, -22])

    def test_the_row_is_to_rise(self):
        for row, expected in (
            ((0, 1, 2), 0), ((0, 2), 0), ((1, 2), 0), ((1, 0), -22), ((0, 2, 1), -22), ((2, 0, 1), -22),
            ((0, 0), -22), ((0, 1, 1), -22), ((0, 0, 1), -22), ((1, 2, 1), -22),
        ):
            self.assertEqual(ask(begin(3), many(1, 1, *row)), [0, expected])

    def test_t_0_is_always_so(self):
        self.assertEqual(ask(begin(1), many(-100, 0, 0), choose(0)), [0, 0, 0])
        self.assertEqual(ask(begin(1), many(100, 0, 0), choose(0)), [0, 0, 0])
        self.assertEqual(ask(begin(1), many(100, 0, 0), all_of(-1, 1), choose(0)), [0, 0, 1, 1])

    def test_t_above_how_many_is_never_so(self):
        for t in (3, 4, 20):
            self.assertEqual(ask(begin(2), many(-100, t, 0, 1), all_of(1, 1), choose(0)), [0, 0, 1, 0])
            self.assertEqual(ask(begin(2), many(-100, t, 0, 1), lay(1, 1), choose(0)), [0, 0, 0, 0])

    def test_t_or_more_are_1(self):
        # With coins 0 to k - 1 laid as 1, coin 3 is what is missing just where t is k + 1.
        for k in range(4):
            laid = [lay(i, 1 if i < k else 0) for i in range(3)]
            for t in range(6):
                line = [begin(5), many(-10, t, 0, 1, 2, 3), all_of(1, 7), *laid, choose(3)]
                self.assertEqual(last(*line), 1 if t == k + 1 else 0)

    def test_by_chances(self):
        # Coins 1 and 2 with chances 1 by 3 and 1 by 4: just one is 1 in 5 by 12, one or both in 6 by 12.
        coins = [begin(3), coin(1, 1, 3), coin(2, 1, 4)]
        for w, expected in ((4, 1), (5, 0), (6, 0)):
            self.assertEqual(last(*coins, many(-12, 2, 0, 1, 2), all_of(w, 1), choose(0)), expected)
        for w, expected in ((5, 1), (6, 0), (7, 0)):
            self.assertEqual(last(*coins, many(-12, 1, 0, 1, 2), all_of(w, 1), choose(0)), expected)
        for w, expected in ((0, 1), (1, 0), (2, 0)):
            self.assertEqual(last(*coins, many(-12, 3, 0, 1, 2), all_of(w, 1), choose(0)), expected)


class HowManyTerms(unittest.TestCase):
    def test_numbers_and_the_thirteenth(self):
        for term in (all_of(1, 0), many(1, 1, 0)):
            self.assertEqual(ask(begin(1), *([term] * 12)), [0, *range(12)])
            self.assertEqual(last(begin(1), *([term] * 13)), -28)

    def test_both_sorts_count_together(self):
        line = [begin(2), *([all_of(1, 0), many(1, 1, 0)] * 6)]
        self.assertEqual(ask(*line, all_of(1, 0), many(1, 1, 0)), [0, *range(12), -28, -28])

    def test_refused_as_wrong_first(self):
        line = [begin(2), *([all_of(1, 0)] * 12)]
        for wrong in (
            all_of(101, 0), all_of(-101, 0), all_of(1), all_of(1, *([0] * 21)), all_of(1, -1), all_of(1, 4),
            many(101, 1, 0), many(-101, 1, 0), many(1, 1), many(1, 1, 2), many(1, 1, -1), many(1, 1, 1, 0),
            many(1, 1, 0, 0), many(1, -1, 0), many(1, 21, 0),
        ):
            self.assertEqual(last(*line, wrong), -22)
            self.assertEqual(last(begin(2), wrong, all_of(1, 0)), 0)

    def test_a_refused_term_changes_nothing(self):
        line = [begin(1), *([many(1, 0, 0)] * 12), all_of(-100, 1), drop(11)]
        self.assertEqual(ask(*line)[-2:], [-28, 11])
        self.assertEqual(last(*line, choose(0)), 0)

    def test_after_a_drop_there_is_room(self):
        line = [begin(1), *([all_of(1, 0)] * 12), drop(5), many(1, 1, 0), many(1, 1, 0)]
        self.assertEqual(ask(*line)[-3:], [11, 11, -28])


class Drop(unittest.TestCase):
    def three(self):
        return [begin(3), all_of(-1, 1), all_of(-1, 3), many(-1, 1, 2)]

    def test_none_such(self):
        for j in (-1, 3, *FAR):
            self.assertEqual(ask(*self.three(), drop(j), drop(2)), [0, 0, 1, 2, -2, 2])
        self.assertEqual(ask(begin(1), drop(0), drop(-1)), [0, -2, -2])

    def test_first_middle_last(self):
        for j in range(3):
            line = [*self.three(), drop(j), choose(0), choose(1), choose(2)]
            self.assertEqual(ask(*line)[4:], [2, *[0 if i == j else 1 for i in range(3)]])

    def test_those_behind_are_numbered_one_less(self):
        line = [*self.three(), drop(0), drop(0), choose(0), choose(1), choose(2)]
        self.assertEqual(ask(*line)[4:], [2, 1, 0, 0, 1])
        line = [*self.three(), drop(1), drop(1), choose(0), choose(1), choose(2)]
        self.assertEqual(ask(*line)[4:], [2, 1, 1, 0, 0])
        line = [*self.three(), drop(0), drop(2), all_of(-1, 1), choose(0)]
        self.assertEqual(ask(*line)[4:], [2, -2, 2, 1])

    def test_until_none_is_left(self):
        line = [*self.three(), drop(2), drop(1), drop(0), drop(0), all_of(1, 0)]
        self.assertEqual(ask(*line)[4:], [2, 1, 0, -2, 0])

    def test_a_refused_drop_drops_nothing(self):
        line = [*self.three(), drop(-1), drop(3), choose(0), choose(1), choose(2)]
        self.assertEqual(ask(*line)[4:], [-2, -2, 1, 1, 1])


class Want(unittest.TestCase):
    def test_what_was_wished_before(self):
        self.assertEqual(
            ask(begin(1), want(0), want(1), want(1), want(0), want(0), want(1), want(0)), [0, 0, 0, 1, 1, 0, 0, 1]
        )

    def test_refused_and_then_unchanged(self):
        for s in (-1, 2, *FAR):
            self.assertEqual(ask(begin(1), want(s), want(1), want(s), want(0), want(s)), [0, -22, 0, -22, 1, -22])

    def test_it_counts_for_the_next_choice(self):
        line = [begin(2), all_of(3, 1), all_of(3, 3)]
        self.assertEqual(ask(*line, want(1), choose(0), want(0), choose(1))[3:], [0, 1, 1, 0])
