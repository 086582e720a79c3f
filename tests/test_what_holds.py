"""What holds over the whole program, on some lines, held against the slow model."""

import random
import unittest
from fractions import Fraction
from itertools import permutations

from tests.calls import (
    all_of, begin, best, chance, choose, clear, coin, drop, lay, lift, many, mean, meanif, replies, run, swing, table,
    want, worth
)
from tests.slow_model import SlowCoins, comes_to, told
from tests.some_line import some_chance, some_line, some_term


def fraction_of(answer):
    return Fraction(answer[1], answer[2])


class NoWorseThanTheMean(unittest.TestCase):
    def check(self, line, much, order):
        mean_before, best_before, ran, worth_then, best_then = replies(
            *line, mean(), best(), run(*order), worth(), best()
        )[len(line):]
        self.assertEqual(ran[0], 0)
        self.assertEqual(best_then, [0, worth_then[1], *ran[1:]])
        rank = -1 if much else 1
        self.assertLessEqual(rank * worth_then[1], rank * fraction_of(mean_before), line)
        self.assertLessEqual(rank * best_before[1], rank * worth_then[1], line)

    def test_in_every_order(self):
        source = random.Random(11)
        for k in range(12):
            line, model = some_line(source, 4)
            for order in permutations(range(4)):
                self.check(line, model.much, order)

    def test_in_some_order(self):
        source = random.Random(12)
        for k in range(60):
            n = source.randint(1, 10)
            line, model = some_line(source, n)
            order = source.sample(range(n), n)
            self.check(line, model.much, order)

    def test_the_mean_lies_between_the_means_with_a_coin_laid(self):
        source = random.Random(13)
        for k in range(100):
            n = source.randint(1, 6)
            line, model = some_line(source, n)
            left = [i for i in range(n) if model.laid[i] is None]
            for i in left:
                asked = replies(*line, mean(), meanif(i, 0), meanif(i, 1), swing(i))[len(line):]
                whole, as_zero, as_one, more = [fraction_of(answer) for answer in asked]
                self.assertEqual(whole, (1 - model.chances[i]) * as_zero + model.chances[i] * as_one)
                self.assertEqual(more, as_one - as_zero)

    def test_the_mean_is_that_of_all_terms_by_their_chances(self):
        source = random.Random(14)
        for k in range(100):
            line, model = some_line(source, source.randint(1, 6))
            terms = len(model.terms)
            asked = replies(*line, mean(), *[chance(j) for j in range(terms)])[len(line):]
            weighed = [w * fraction_of(answer) for (w, term), answer in zip(model.terms, asked[1:])]
            self.assertEqual(fraction_of(asked[0]), sum(weighed))


class NoTermIsSo(unittest.TestCase):
    def check(self, line, terms, order):
        mean_before, ran, worth_then, *chances = replies(
            *line, mean(), run(*order), worth(), *[chance(j) for j in range(terms)]
        )[len(line):]
        self.assertLess(fraction_of(mean_before), 1)
        self.assertEqual(worth_then, [0, 0])
        self.assertEqual(chances, [[0, 0, 1]] * terms)

    def test_five_threes_of_six_coins(self):
        rows = [(0, 1, 2), (2, 3, 4), (0, 4, 5), (1, 3, 5), (1, 2, 5)]
        terms = [all_of(1, *[2 * i + k % 2 for i in row]) for k, row in enumerate(rows)]
        for order in permutations(range(6)):
            self.check([begin(6), *terms], 5, order)

    def test_on_some_lines(self):
        source = random.Random(15)
        met = 0
        for k in range(400):
            n = source.randint(3, 8)
            line = [begin(n), *[coin(i, *some_chance(source)) for i in range(n)]]
            terms = [some_term(source, n, source.randint(1, 3))[0] for j in range(source.randint(1, 4))]
            line += terms
            if fraction_of(replies(*line, mean())[-1]) < 1:
                met += 1
                self.check(line, len(terms), source.sample(range(n), n))
        self.assertGreater(met, 50)


class EveryCall(unittest.TestCase):
    """Lines of sixty calls, whatever comes: each answer is what the model says."""

    def some_call(self, source, model):
        """A call and its answer by the model, which goes along."""
        n = len(model.laid)
        i = source.randint(0, n - 1)
        v = source.randint(0, 1)
        name = source.choice((
            "coin", "term", "term", "drop", "want", "lay", "lift", "choose", "run", "mean", "meanif", "chance",
            "worth", "best", "swing", "table", "clear"
        ))
        return getattr(self, "on_" + name)(source, model, i, v)

    def on_coin(self, source, model, i, v):
        a, b = some_chance(source)
        model.chances[i] = Fraction(a, b)
        return coin(i, a, b), [0]

    def on_term(self, source, model, i, v):
        call, term = some_term(source, len(model.laid), source.randint(-9, 9))
        if len(model.terms) == 12:
            return call, [-28]
        model.terms.append(term)
        return call, [len(model.terms) - 1]

    def on_drop(self, source, model, i, v):
        j = source.randint(0, 12)
        if j >= len(model.terms):
            return drop(j), [-2]
        model.terms.pop(j)
        return drop(j), [len(model.terms)]

    def on_want(self, source, model, i, v):
        before = model.much
        model.much = v == 1
        return want(v), [int(before)]

    def on_lay(self, source, model, i, v):
        if model.laid[i] is not None:
            return lay(i, v), [-17]
        model.laid[i] = v
        return lay(i, v), [0]

    def on_lift(self, source, model, i, v):
        if model.laid[i] is None:
            return lift(i), [-33]
        model.laid[i] = None
        return lift(i), [0]

    def on_choose(self, source, model, i, v):
        return choose(i), [-17] if model.laid[i] is not None else [model.choose(i)]

    def on_run(self, source, model, i, v):
        n = len(model.laid)
        order = [source.randrange(n) for k in range(source.randint(0, n))]
        return run(*order), model.run(order)

    def on_mean(self, source, model, i, v):
        return mean(), told(model.mean())

    def on_meanif(self, source, model, i, v):
        return meanif(i, v), [-17] if model.laid[i] is not None else told(model.mean_if(i, v))

    def on_chance(self, source, model, i, v):
        j = source.randint(0, 12)
        return chance(j), [-2] if j >= len(model.terms) else told(model.chance(j))

    def on_worth(self, source, model, i, v):
        return worth(), model.worth()

    def on_best(self, source, model, i, v):
        return best(), model.best()

    def on_swing(self, source, model, i, v):
        return swing(i), [-17] if model.laid[i] is not None else told(model.swing(i))

    def on_table(self, source, model, i, v):
        return table(), model.table()

    def on_clear(self, source, model, i, v):
        return clear(), model.clear()

    def check(self, source, n, length):
        model = SlowCoins(n)
        line = [begin(n)]
        expected = [[0]]
        while len(line) < length:
            call, answer = self.some_call(source, model)
            line.append(call)
            expected.append(answer)
        self.assertEqual(replies(*line), expected, line)

    def test_few_coins(self):
        source = random.Random(21)
        for k in range(120):
            self.check(source, source.randint(1, 4), 60)

    def test_more_coins(self):
        source = random.Random(22)
        for k in range(12):
            self.check(source, source.randint(5, 7), 60)

    def test_ten_coins(self):
        self.check(random.Random(23), 10, 60)


class BestIsTheFirst(unittest.TestCase):
    def test_with_many_alike(self):
        source = random.Random(31)
        for k in range(150):
            n = source.randint(1, 6)
            line = [begin(n)]
            model = SlowCoins(n)
            for j in range(source.randint(1, 4)):
                call, term = some_term(source, n, source.choice((-1, 1)))
                line.append(call)
                model.terms.append(term)
            for s in (0, 1):
                model.much = s == 1
                found = replies(*line, want(s), best())[-1]
                self.assertEqual(found, model.best(), line)
                self.assertEqual(found[1], comes_to(model.terms, found[2:]))

    def test_alike_by_both_sorts(self):
        line = [begin(3), all_of(-2, 1, 3), many(-2, 2, 1, 2), want(0), best()]
        self.assertEqual(replies(*line)[-1], [0, -4, 1, 1, 1])
