"""The calls as lists of whole numbers, and the answers call by call."""

from laidcoins.onebyone import answers

FAR = (-2147483648, -1000000, 1000000, 2147483647)


def begin(n):
    return [0, n]


def coin(i, a, b):
    return [1, i, a, b]


def all_of(w, *row):
    return [2, w, len(row), *row]


def many(w, t, *row):
    return [3, w, t, len(row), *row]


def drop(j):
    return [4, j]


def want(s):
    return [5, s]


def lay(i, v):
    return [6, i, v]


def lift(i):
    return [7, i]


def choose(i):
    return [8, i]


def run(*order):
    return [9, len(order), *order]


def mean():
    return [10]


def meanif(i, v):
    return [11, i, v]


def chance(j):
    return [12, j]


def worth():
    return [13]


def best():
    return [14]


def swing(i):
    return [15, i]


def table():
    return [16]


def clear():
    return [17]


# Every call but begin, each as it would be taken on three coins with one term.
ALL_BUT_BEGIN = [
    coin(0, 1, 2), all_of(1, 0), many(1, 1, 0, 1), drop(0), want(1), lay(0, 1), lift(0), choose(0),
    run(0, 1), mean(), meanif(0, 1), chance(0), worth(), best(), swing(0), table(), clear(),
]


def one_list(calls):
    return [number for call in calls for number in call]


def split_answers(given):
    found = []
    at = 0
    while at < len(given):
        end = at + 1 + given[at]
        assert at + 1 < end <= len(given), given
        found.append(given[at + 1:end])
        at = end
    return found


def replies(*calls):
    """The answer of each call, as a list of its numbers."""
    found = split_answers(answers(one_list(calls)))
    assert len(found) == len(calls), found
    return found


def reply(*calls):
    return replies(*calls)[-1]


def ask(*calls):
    """The answers of calls that each answer one number."""
    found = replies(*calls)
    assert all(len(numbers) == 1 for numbers in found), found
    return [numbers[0] for numbers in found]


def last(*calls):
    return ask(*calls)[-1]
