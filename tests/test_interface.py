"""The interface, and what the calls are before a begin that is answered 0."""

import contextlib
import io
import unittest

from laidcoins.onebyone import answers
from tests.calls import (
    ALL_BUT_BEGIN, FAR, all_of, ask, begin, best, chance, choose, clear, coin, drop, lay, lift, many, mean, meanif,
    one_list, replies, reply, run, swing, table, want, worth
)

LINE = one_list([
    want(1), begin(0), begin(3), coin(1, 2, 3), all_of(-4, 1, 3, 1), many(5, 2, 0, 1, 2), all_of(1, 6), want(1),
    mean(), meanif(0, 0), chance(0), swing(0), worth(), best(), choose(0), lay(0, 1), lay(1, 0), lift(1), run(1, 3),
    run(1), drop(0), drop(7), want(2), table(), choose(2), worth(), clear(), swing(3), begin(11),
])
EXPECTED = [
    [-11], [-22], [0], [0], [0], [1], [-22], [0],
    [0, 19, 12], [0, 5, 3], [0, 1, 3], [0, -1, 6], [-6], [0, 5, 0, 1, 1], [0], [-17], [0], [0], [-22],
    [1, 0, 1, -1], [1], [-2], [-22], [3, 0, 1, -1, 1, 5, 2, 3, 0, 1, 2], [1], [0, 5], [3], [-2], [-22],
]


class BeforeABegin(unittest.TestCase):
    def test_all_else_is_refused(self):
        for call in ALL_BUT_BEGIN:
            self.assertEqual(answers(call), [1, -11])
            self.assertEqual(answers(call + begin(1) + want(0)), [1, -11, 1, 0, 1, 0])

    def test_also_what_is_wrong_besides(self):
        for call in (coin(-1, 5, 0), all_of(999), all_of(1, *([7] * 70)), many(999, -1, 9, 3), drop(-1), want(7),
                     lay(-1, 7), lift(-1), choose(-1), run(-1), run(*([0] * 21)), meanif(-1, 7), chance(-1), swing(-1)):
            self.assertEqual(ask(call, begin(1)), [-11, 0])

    def test_a_refused_begin_is_none(self):
        for call in ALL_BUT_BEGIN:
            self.assertEqual(answers(begin(0) + call + begin(11) + call), [1, -22, 1, -11, 1, -22, 1, -11])

    def test_nothing_is_kept_of_them(self):
        line = [all_of(1, 0), want(1), lay(0, 1), run(0), begin(1)]
        self.assertEqual(ask(*line, drop(0), want(0), lift(0)), [-11, -11, -11, -11, 0, -2, 0, -33])
        self.assertEqual(reply(*ALL_BUT_BEGIN, begin(2), table()), [2, -1, -1, 0])

    def test_their_rows_are_gone_past(self):
        for length in (0, 1, 2, 20, 21, 70):
            for number in (0, 9, 17, *FAR):
                row = [number] * length
                line = [all_of(1, *row), many(1, 1, *row), run(*row), begin(2), table()]
                self.assertEqual(replies(*line), [[-11], [-11], [-11], [0], [2, -1, -1, 0]])

    def test_all_of_them_one_behind_another(self):
        self.assertEqual(ask(*ALL_BUT_BEGIN, begin(1)), [*([-11] * 17), 0])


class AfterABegin(unittest.TestCase):
    def test_every_call_is_answered(self):
        for call in ALL_BUT_BEGIN:
            self.assertNotEqual(reply(begin(3), call), [-11])

    def test_a_begin_that_comes_again(self):
        line = [begin(3), coin(0, 1, 3), all_of(6, 1), want(1), run(0, 1), begin(2)]
        self.assertEqual(replies(*line, table(), mean(), worth(), best(), clear(), want(0))[5:], [
            [0], [2, -1, -1, 0], [0, 0, 1], [-6], [0, 0, 0, 0], [0], [0]
        ])
        self.assertEqual(reply(*line, all_of(6, 1), mean()), [0, 3, 1])

    def test_a_refused_begin_changes_nothing(self):
        line = [begin(3), coin(0, 1, 3), all_of(6, 1), want(1), run(1)]
        for asked in (table(), mean(), best(), chance(0), clear(), want(0)):
            for n in (0, 11, *FAR):
                self.assertEqual(replies(*line, begin(n), asked)[5:], [[-22], reply(*line, asked)])

    def test_far_numbers_anywhere(self):
        for far in FAR:
            line = [begin(far), begin(1), coin(far, far, far), all_of(far, far), many(far, far, far), drop(far),
                    want(far), lay(far, far), lift(far), choose(far), run(far), meanif(far, far), chance(far),
                    swing(far), table()]
            self.assertEqual(replies(*line), [
                [-22], [0], [-2], [-22], [-22], [-2], [-22], [-2], [-2], [-2], [-22], [-2], [-2], [-2], [1, -1, 0]
            ])


class Lists(unittest.TestCase):
    def test_the_answers_stand_one_behind_another(self):
        self.assertEqual(answers(LINE), [number for given in EXPECTED for number in (len(given), *given)])

    def test_one_call(self):
        self.assertEqual(answers([0, 5]), [1, 0])

    def test_sixty_calls_with_the_longest_rows(self):
        row = [2147483647] * 70
        self.assertEqual(ask(begin(10), *([many(1, 1, *row)] * 58), all_of(1, 0)), [0, *([-22] * 58), 0])

    def test_sixty_calls_that_reckon(self):
        terms = [many(k - 6, 5, *range(10)) for k in range(12)]
        line = [begin(10), *terms, *([choose(9), lift(9)] * 23), want(0)]
        self.assertEqual(len(ask(*line)), 60)
        line = [begin(10), *terms, run(*range(10)), clear(), *([best(), mean(), swing(0), table(), run()] * 9)]
        self.assertEqual(len(line), 60)
        given = replies(*line)
        # The weights are -6 together: five coins are laid as 1, then the means are alike.
        self.assertEqual(given[13], [0, *([1] * 5), *([0] * 5)])
        self.assertEqual(given[15:], given[15:20] * 9)

    def test_numbers_in_a_refused_run_are_not_calls(self):
        self.assertEqual(ask(begin(2), run(0, 99, 5, 1), want(0)), [0, -22, 0])

    def test_numbers_in_a_refused_row_are_not_calls(self):
        self.assertEqual(ask(begin(2), all_of(1, 0, 99, 5, 1), want(0)), [0, -22, 0])

    def test_what_is_handed_in_stays(self):
        calls = list(LINE)
        answers(calls)
        self.assertEqual(calls, LINE)

    def test_what_is_handed_in_is_never_changed(self):
        class Unchanging(list):
            def refuse(self, *given, **named):
                raise AssertionError("the list was changed")

            append = extend = insert = pop = remove = clear = sort = reverse = refuse
            __setitem__ = __delitem__ = __iadd__ = __imul__ = refuse

        self.assertEqual(answers(Unchanging(LINE)), answers(LINE))

    def test_the_same_again(self):
        calls = list(LINE)
        first = answers(calls)
        kept = list(first)
        second = answers(calls)
        self.assertEqual(second, kept)
        second.append(5)
        self.assertEqual(first, kept)
        self.assertEqual(answers(calls), kept)

    def test_every_line_begins_anew(self):
        answers(one_list([begin(2), want(1), all_of(1, 0)]))
        self.assertEqual(ask(want(0)), [-11])
        self.assertEqual(ask(begin(1), want(0), drop(0)), [0, 0, -2])

    def test_whole_numbers_in_a_list(self):
        given = answers(LINE)
        self.assertIs(type(given), list)
        self.assertTrue(all(type(number) is int for number in given))

    def test_nothing_is_printed(self):
        out = io.StringIO()
        with contextlib.redirect_stdout(out), contextlib.redirect_stderr(out):
            answers(LINE)
        self.assertEqual(out.getvalue(), "")
