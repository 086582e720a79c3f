"""The document's words done slowly: every way of lying is gone through, in fractions."""

from fractions import Fraction
from itertools import product


def is_so(term, way):
    sort, number, row = term
    if sort == "all":
        return all(way[told // 2] == told % 2 for told in row)
    return sum(way[i] for i in row) >= number


def comes_to(terms, way):
    return sum(w for w, term in terms if is_so(term, way))


def told(fraction):
    return [0, fraction.numerator, fraction.denominator]


class SlowCoins:
    def __init__(self, n):
        self.chances = [Fraction(1, 2)] * n
        self.laid = [None] * n
        self.terms = []
        self.much = False

    def likely(self, way, laid):
        found = Fraction(1)
        for chance, lies, v in zip(self.chances, laid, way):
            if lies is None:
                found *= chance if v == 1 else 1 - chance
            elif lies != v:
                return Fraction(0)
        return found

    def ways(self):
        return product((0, 1), repeat=len(self.laid))

    def mean(self, laid=None):
        laid = self.laid if laid is None else laid
        return sum((self.likely(way, laid) * comes_to(self.terms, way) for way in self.ways()), Fraction(0))

    def mean_if(self, i, v):
        return self.mean(self.laid[:i] + [v] + self.laid[i + 1:])

    def swing(self, i):
        return self.mean_if(i, 1) - self.mean_if(i, 0)

    def chance(self, j):
        term = self.terms[j][1]
        return sum((self.likely(way, self.laid) for way in self.ways() if is_so(term, way)), Fraction(0))

    def choose(self, i):
        more = self.swing(i)
        v = int(more > 0 if self.much else more < 0)
        self.laid[i] = v
        return v

    def as_laid(self):
        return [-1 if lies is None else lies for lies in self.laid]

    def run(self, order):
        for i in order:
            if self.laid[i] is None:
                self.choose(i)
        return [self.laid.count(None), *self.as_laid()]

    def clear(self):
        were_laid = len(self.laid) - self.laid.count(None)
        self.laid = [None] * len(self.laid)
        return [were_laid]

    def worth(self):
        return [-6] if None in self.laid else [0, comes_to(self.terms, self.laid)]

    def best(self):
        fitting = [way for way in self.ways() if all(lies in (None, v) for lies, v in zip(self.laid, way))]
        rank = -1 if self.much else 1
        first = min((rank * comes_to(self.terms, way), way) for way in fitting)[1]
        return [0, comes_to(self.terms, first), *first]

    def table(self):
        found = [len(self.laid), *self.as_laid(), len(self.terms)]
        for w, (sort, number, row) in self.terms:
            found += [w, -1 if sort == "all" else number, len(row), *row]
        return found
