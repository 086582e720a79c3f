"""Lines with some coins, terms and layings, each with the slow model after it."""

from fractions import Fraction

from tests.calls import all_of, begin, coin, lay, many, want
from tests.slow_model import SlowCoins


def some_chance(source):
    b = source.randint(1, 10)
    return source.choice((0, b, source.randint(0, b), source.randint(0, b))), b


def some_term(source, n, w):
    """The call, and the term as the model has it."""
    if source.random() < 0.5:
        row = [source.randrange(2 * n) for k in range(source.randint(1, 5))]
        return all_of(w, *row), (w, ("all", None, row))
    row = sorted(source.sample(range(n), source.randint(1, n)))
    t = source.randint(0, len(row) + 1)
    return many(w, t, *row), (w, ("many", t, row))


def some_line(source, n):
    model = SlowCoins(n)
    line = [begin(n)]
    for i in range(n):
        a, b = some_chance(source)
        line.append(coin(i, a, b))
        model.chances[i] = Fraction(a, b)
    small = source.choice((2, 10, 100))
    for j in range(source.randint(0, 12)):
        call, term = some_term(source, n, source.randint(-small, small))
        line.append(call)
        model.terms.append(term)
    model.much = source.random() < 0.5
    line.append(want(int(model.much)))
    for i in source.sample(range(n), source.randint(0, n // 2)):
        model.laid[i] = source.randint(0, 1)
        line.append(lay(i, model.laid[i]))
    return line, model
