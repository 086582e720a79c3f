"""Coins laid one by one: `answers` goes through the calls on one object and gives back what they answer."""

# The calls' numbers.
BEGIN = 0
COIN = 1
ALL = 2
MANY = 3
DROP = 4
WANT = 5
LAY = 6
LIFT = 7
CHOOSE = 8
RUN = 9
MEAN = 10
MEANIF = 11
CHANCE = 12
WORTH = 13
BEST = 14
SWING = 15
TABLE = 16
CLEAR = 17

# How many whole numbers stand behind each call's number, ahead of its row.
NUMBERS = (1, 3, 1, 2, 1, 1, 2, 1, 1, 0, 0, 2, 1, 0, 0, 1, 0, 0)
WITH_ROW = (2, 3, 9)

NO_SUCH = -2
STILL_THROWN = -6
NOT_BEGUN = -11
IS_LAID = -17
WRONG = -22
FULL = -28
NOT_LAID = -33

MOST_COINS = 10
MOST_PARTS = 10
MOST_TERMS = 12
MOST_WEIGHT = 100
MOST_TOLD = 20

# What stands in the place of 0 or 1 while a coin is thrown, and in the place of t in a term of the sort all.
THROWN = -1
AS_TOLD = -1


def is_weight(w):
    return -MOST_WEIGHT <= w <= MOST_WEIGHT


def within(row, end):
    """Whether every number of the row is from 0 to below end."""
    return all([0 <= number < end for number in row])


def is_rising(row):
    return all([row[k - 1] < row[k] for k in range(1, len(row))])


def coin_parts(chance, lies):
    """Of the parts that a coin's chance is told in: how many have it as 0, how many as 1."""
    a = chance[0]
    b = chance[1]
    if lies == 0:
        return (b, 0)
    if lies == 1:
        return (0, b)
    return (b - a, a)


def parts_as_told(parts, row):
    """In how many parts of the whole every coin lies as the row tells."""
    found = 1
    for i, part in enumerate(parts):
        fitting = 0
        if 2 * i + 1 not in row:
            fitting = fitting + part[0]
        if 2 * i not in row:
            fitting = fitting + part[1]
        found = found * fitting
    return found


def with_coin(counts, part):
    """counts[k] tells in how many parts k coins are 1; the same with one coin more."""
    as_zero = [count * part[0] for count in counts] + [0]
    as_one = [0] + [count * part[1] for count in counts]
    return [low + high for low, high in zip(as_zero, as_one)]


def parts_many(parts, t, row):
    """In how many parts of the whole t or more coins of the row are 1."""
    counts = [1]
    for i, part in enumerate(parts):
        if i in row:
            counts = with_coin(counts, part)
        else:
            counts = [count * (part[0] + part[1]) for count in counts]
    return sum(counts[t:])


def term_parts(parts, term):
    if term[1] == AS_TOLD:
        return parts_as_told(parts, term[2])
    return parts_many(parts, term[1], term[2])


def mean_upper(chances, laid, terms):
    """The mean's upper number, not shortened.

    The lower one is the product of all coins' b, whatever is laid: so two means
    of the same coins are compared exactly by their upper numbers alone.
    """
    parts = [coin_parts(chance, lies) for chance, lies in zip(chances, laid)]
    return sum([term[0] * term_parts(parts, term) for term in terms])


def greatest_common(a, b):
    high = a
    low = b
    while low != 0:
        rest = high % low
        high = low
        low = rest
    return high


def is_so(term, way):
    if term[1] == AS_TOLD:
        return all([way[told // 2] == told % 2 for told in term[2]])
    return sum([way[i] for i in term[2]]) >= term[1]


def comes_to(terms, way):
    return sum([term[0] for term in terms if is_so(term, way)])


def all_ways(laid):
    """Every way in which all coins may lie, those laid as they are; where two first differ the one with 0 is first."""
    ways = [[]]
    for lies in laid:
        longer = []
        for way in ways:
            if lies != 1:
                longer.append(way + [0])
            if lies != 0:
                longer.append(way + [1])
        ways = longer
    return ways


class Coins:
    """What the calls work on; it has no coins until a begin is answered 0."""

    def __init__(self):
        self.chances = []
        self.laid = []
        self.terms = []
        self.much = 0

    def is_begun(self):
        return len(self.laid) > 0

    def has_coin(self, i):
        return 0 <= i < len(self.laid)

    def has_term(self, j):
        return 0 <= j < len(self.terms)

    def begin(self, n):
        if n < 1 or n > MOST_COINS:
            return WRONG
        self.chances = [(1, 2) for i in range(n)]
        self.laid = [THROWN for i in range(n)]
        self.terms = []
        self.much = 0
        return 0

    def coin(self, i, a, b):
        if not self.has_coin(i):
            return NO_SUCH
        if b < 1 or b > MOST_PARTS or a < 0 or a > b:
            return WRONG
        self.chances[i] = (a, b)
        return 0

    def add_term(self, w, t, row):
        if len(self.terms) >= MOST_TERMS:
            return FULL
        self.terms.append((w, t, row))
        return len(self.terms) - 1

    def add_all(self, w, row):
        if not is_weight(w) or len(row) < 1 or len(row) > MOST_TOLD:
            return WRONG
        if not within(row, 2 * len(self.laid)):
            return WRONG
        return self.add_term(w, AS_TOLD, row)

    def add_many(self, w, t, row):
        if not is_weight(w) or len(row) < 1 or t < 0 or t > MOST_TOLD:
            return WRONG
        if not within(row, len(self.laid)) or not is_rising(row):
            return WRONG
        return self.add_term(w, t, row)

    def drop(self, j):
        if not self.has_term(j):
            return NO_SUCH
        self.terms = self.terms[:j] + self.terms[j + 1:]
        return len(self.terms)

    def want(self, s):
        if s != 0 and s != 1:
            return WRONG
        before = self.much
        self.much = s
        return before

    def refusal_to_lay(self, i, v=0):
        """0 if coin i may be laid as v; where no v is told, it isn't what is wrong."""
        if not self.has_coin(i):
            return NO_SUCH
        if v != 0 and v != 1:
            return WRONG
        if self.laid[i] != THROWN:
            return IS_LAID
        return 0

    def lay(self, i, v):
        refusal = self.refusal_to_lay(i, v)
        if refusal == 0:
            self.laid[i] = v
        return refusal

    def lift(self, i):
        if not self.has_coin(i):
            return NO_SUCH
        if self.laid[i] == THROWN:
            return NOT_LAID
        self.laid[i] = THROWN
        return 0

    def mean_upper_if(self, i, v):
        laid = list(self.laid)
        laid[i] = v
        return mean_upper(self.chances, laid, self.terms)

    def is_better(self, one, other):
        return one > other if self.much == 1 else one < other

    def lay_well(self, i):
        as_zero = self.mean_upper_if(i, 0)
        as_one = self.mean_upper_if(i, 1)
        self.laid[i] = 1 if self.is_better(as_one, as_zero) else 0

    def choose(self, i):
        refusal = self.refusal_to_lay(i)
        if refusal != 0:
            return refusal
        self.lay_well(i)
        return self.laid[i]

    def run(self, row):
        if len(row) > MOST_TOLD or not within(row, len(self.laid)):
            return [WRONG]
        for i in row:
            if self.laid[i] == THROWN:
                self.lay_well(i)
        return [self.laid.count(THROWN)] + self.laid

    def lift_all(self):
        were_laid = len(self.laid) - self.laid.count(THROWN)
        self.laid = [THROWN for i in range(len(self.laid))]
        return were_laid

    def fraction(self, upper):
        """The answer that tells upper by the product of all coins' b."""
        lower = 1
        for chance in self.chances:
            lower = lower * chance[1]
        common = greatest_common(abs(upper), lower)
        return [0, upper // common, lower // common]

    def mean(self):
        return self.fraction(mean_upper(self.chances, self.laid, self.terms))

    def mean_if(self, i, v):
        refusal = self.refusal_to_lay(i, v)
        if refusal != 0:
            return [refusal]
        return self.fraction(self.mean_upper_if(i, v))

    def swing(self, i):
        refusal = self.refusal_to_lay(i)
        if refusal != 0:
            return [refusal]
        return self.fraction(self.mean_upper_if(i, 1) - self.mean_upper_if(i, 0))

    def chance(self, j):
        if not self.has_term(j):
            return [NO_SUCH]
        term = self.terms[j]
        # How likely a term is, is the mean of it alone with a weight of 1.
        return self.fraction(mean_upper(self.chances, self.laid, [(1, term[1], term[2])]))

    def worth(self):
        if THROWN in self.laid:
            return [STILL_THROWN]
        return [0, comes_to(self.terms, self.laid)]

    def best(self):
        ways = all_ways(self.laid)
        numbers = [comes_to(self.terms, way) for way in ways]
        number = max(numbers) if self.much == 1 else min(numbers)
        return [0, number] + ways[numbers.index(number)]

    def table(self):
        found = [len(self.laid)] + self.laid + [len(self.terms)]
        for term in self.terms:
            found.extend([term[0], term[1], len(term[2])])
            found.extend(term[2])
        return found


def one_number(coins, call, numbers, row):
    """What the calls from coin to choose answer."""
    if call == COIN:
        return coins.coin(numbers[0], numbers[1], numbers[2])
    if call == ALL:
        return coins.add_all(numbers[0], row)
    if call == MANY:
        return coins.add_many(numbers[0], numbers[1], row)
    if call == DROP:
        return coins.drop(numbers[0])
    if call == WANT:
        return coins.want(numbers[0])
    if call == LAY:
        return coins.lay(numbers[0], numbers[1])
    if call == LIFT:
        return coins.lift(numbers[0])
    return coins.choose(numbers[0])


def some_numbers(coins, call, numbers, row):
    """What the calls from run to table answer."""
    if call == RUN:
        return coins.run(row)
    if call == MEAN:
        return coins.mean()
    if call == MEANIF:
        return coins.mean_if(numbers[0], numbers[1])
    if call == CHANCE:
        return coins.chance(numbers[0])
    if call == WORTH:
        return coins.worth()
    if call == BEST:
        return coins.best()
    if call == SWING:
        return coins.swing(numbers[0])
    return coins.table()


def answer(coins, call, numbers, row):
    if call == BEGIN:
        return [coins.begin(numbers[0])]
    if not coins.is_begun():
        return [NOT_BEGUN]
    if call == CLEAR:
        return [coins.lift_all()]
    if call <= CHOOSE:
        return [one_number(coins, call, numbers, row)]
    return some_numbers(coins, call, numbers, row)


def answers(calls):
    """What the calls, one behind another in one list, answer on one new object: each with its length before it."""
    coins = Coins()
    given = []
    at = 0
    while at < len(calls):
        call = calls[at]
        end = at + 1 + NUMBERS[call]
        numbers = calls[at + 1:end]
        row = []
        if call in WITH_ROW:
            start = end + 1
            end = start + calls[end]
            row = calls[start:end]
        answered = answer(coins, call, numbers, row)
        given.append(len(answered))
        given.extend(answered)
        at = end
    return given
