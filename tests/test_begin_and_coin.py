"""Promise 1."""

import unittest

from tests.calls import FAR, all_of, ask, begin, choose, coin, drop, last, lay, lift, want


class Begin(unittest.TestCase):
    def test_from_one_to_ten_coins(self):
        for n in range(1, 11):
            self.assertEqual(ask(begin(n)), [0])
            self.assertEqual(ask(begin(n), coin(n - 1, 1, 2), coin(n, 1, 2)), [0, 0, -2])

    def test_refused(self):
        for n in (0, 11, -1, 12, *FAR):
            self.assertEqual(ask(begin(n), coin(0, 1, 2)), [-22, -11])

    def test_chance_is_one_by_two(self):
        # Coin 0 as 1 brings -10, and 2 w if coin 1 is 1: by 1 by 2 the means are alike just where w is 10.
        for w, expected in ((9, 0), (10, 0), (11, 1)):
            line = [begin(2), want(1), all_of(2 * w, 1, 3), all_of(-10, 1), choose(0)]
            self.assertEqual(last(*line), expected)
        for w, expected in ((9, 1), (10, 0), (11, 0)):
            line = [begin(2), all_of(2 * w, 1, 3), all_of(-10, 1), choose(0)]
            self.assertEqual(last(*line), expected)

    def test_at_first_little_is_wished_nothing_is_laid_no_terms(self):
        self.assertEqual(ask(begin(2), drop(0), lift(0), lift(1), want(0)), [0, -2, -33, -33, 0])

    def test_begin_again_makes_all_new(self):
        line = [begin(3), coin(1, 3, 3), all_of(4, 1), want(1), lay(2, 1), begin(2)]
        self.assertEqual(ask(*line, coin(2, 1, 2)), [0, 0, 0, 0, 0, 0, -2])
        self.assertEqual(last(*line, drop(0)), -2)
        self.assertEqual(last(*line, want(0)), 0)
        self.assertEqual(last(*line, begin(3), lift(2)), -33)
        self.assertEqual(last(*line, all_of(1, 0)), 0)
        # By 1 by 2 coin 0 as 1 brings 10 by 2 - 6; were coin 1 still sure to be 1, it would bring 10 - 6.
        again = [all_of(10, 1, 3), all_of(-6, 1)]
        self.assertEqual(last(*line, *again, choose(0)), 1)
        self.assertEqual(last(*line, *again, coin(1, 3, 3), choose(0)), 0)

    def test_begin_again_with_more_coins(self):
        self.assertEqual(ask(begin(1), coin(9, 1, 2), begin(10), coin(9, 1, 2)), [0, -2, 0, 0])

    def test_refused_begin_changes_nothing(self):
        for n in (0, 11, *FAR):
            line = [begin(2), coin(1, 1, 1), all_of(-5, 1, 3), want(1), all_of(4, 1), lay(1, 1), begin(n)]
            self.assertEqual(ask(*line), [0, 0, 0, 0, 1, 0, -22])
            self.assertEqual(last(*line, lift(1)), 0)
            self.assertEqual(last(*line, drop(1)), 1)
            self.assertEqual(last(*line, want(0)), 1)
            self.assertEqual(last(*line, coin(1, 1, 1)), 0)
            self.assertEqual(last(*line, coin(2, 1, 1)), -2)
            # By 1 by 2 the mean with coin 0 as 1 would be 1.5, by 1 by 1 it's -1.
            self.assertEqual(last(*line, lift(1), choose(0)), 0)


class Coin(unittest.TestCase):
    def test_which_coins_there_are(self):
        for i, expected in ((-1, -2), (0, 0), (1, 0), (2, 0), (3, -2), (-2147483648, -2), (2147483647, -2)):
            self.assertEqual(ask(begin(3), coin(i, 1, 3)), [0, expected])

    def test_lower_number(self):
        for b, expected in ((0, -22), (1, 0), (10, 0), (11, -22), (-1, -22), (-2147483648, -22), (2147483647, -22)):
            self.assertEqual(ask(begin(1), coin(0, 0, b)), [0, expected])

    def test_upper_number(self):
        for b in range(1, 11):
            for a, expected in ((-1, -22), (0, 0), (b, 0), (b + 1, -22)):
                self.assertEqual(ask(begin(1), coin(0, a, b)), [0, expected])
        for a in FAR:
            self.assertEqual(ask(begin(1), coin(0, a, 10)), [0, -22])

    def test_no_coin_is_named_first(self):
        for i in (-1, 2, *FAR):
            self.assertEqual(ask(begin(2), coin(i, 5, 0), coin(i, -1, 2), coin(i, 3, 2)), [0, -2, -2, -2])

    def test_the_chance_counts(self):
        # Coin 0 as 1 brings -7, and 10 if coin 1 is 1 too: worth it just where the chance is below 7 by 10.
        for a in range(11):
            line = [begin(2), coin(1, a, 10), all_of(-7, 1), all_of(10, 1, 3), choose(0)]
            self.assertEqual(last(*line), 1 if a < 7 else 0)

    def test_a_later_chance_takes_the_place_of_the_earlier(self):
        line = [begin(2), all_of(-7, 1), all_of(10, 1, 3), coin(1, 9, 10), coin(1, 6, 10), choose(0)]
        self.assertEqual(last(*line), 1)

    def test_refused_coin_changes_nothing(self):
        line = [begin(2), all_of(-7, 1), all_of(10, 1, 3), coin(1, 9, 10)]
        for refused in (coin(1, 1, 11), coin(1, -1, 10), coin(1, 1, 0), coin(2, 0, 1), coin(-1, 0, 1)):
            self.assertEqual(last(*line, refused, choose(0)), 0)

    def test_a_laid_coin_takes_a_chance_and_stays_laid(self):
        line = [begin(2), all_of(-7, 1), all_of(10, 1, 3), lay(1, 1), coin(1, 0, 10)]
        self.assertEqual(ask(*line, choose(0)), [0, 0, 1, 0, 0, 0])
        self.assertEqual(ask(*line, lift(1), choose(0)), [0, 0, 1, 0, 0, 0, 1])
