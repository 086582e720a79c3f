"""The document's words done slowly: every way of lying is gone through, in fractions."""

from fractions import Fraction
from itertools import product


def is_so(term, way):
    sort, number, row = term
    if sort == "all":
        return all(way[told // 2] == told % 2 for told in row)
    return sum(way[i] for i in row) >= number


def comes_to(terms, way):
    return sum(w for w, term in terms if is_so(term, way))


class SlowCoins:
    def __init__(self, n):
        self.chances = [Fraction(1, 2)] * n
        self.laid = [None] * n
        self.terms = []
        self.much = False

    def likely(self, way, laid):
        found = Fraction(1)
        for chance, lies, v in zip(self.chances, laid, way):
            if lies is None:
                found *= chance if v == 1 else 1 - chance
            elif lies != v:
                return Fraction(0)
        return found

    def mean(self, laid=None):
        laid = self.laid if laid is None else laid
        ways = product((0, 1), repeat=len(laid))
        return sum((self.likely(way, laid) * comes_to(self.terms, way) for way in ways), Fraction(0))

    def mean_if(self, i, v):
        return self.mean(self.laid[:i] + [v] + self.laid[i + 1:])

    def choose(self, i):
        more = self.mean_if(i, 1) - self.mean_if(i, 0)
        v = int(more > 0 if self.much else more < 0)
        self.laid[i] = v
        return v
