"""The interface, and what the calls are before a begin that is answered 0."""

import ast
import contextlib
import io
import pathlib
import unittest

from laidcoins.onebyone import answers
from tests.calls import ALL_BUT_BEGIN, all_of, ask, begin, choose, coin, drop, lay, lift, many, one_list, want

LINE = one_list([
    want(1), begin(0), begin(3), coin(1, 2, 3), all_of(-4, 1, 3, 1), many(5, 2, 0, 1, 2), all_of(1, 6), want(1),
    choose(0), lay(0, 1), lay(1, 0), lift(1), choose(1), drop(0), drop(7), want(2), choose(2), begin(11),
])
EXPECTED = [-11, -22, 0, 0, 0, 1, -22, 0, 0, -17, 0, 0, 1, 1, -2, -22, 1, -22]
PACKAGE = pathlib.Path(__file__).resolve().parent.parent / "laidcoins"


class BeforeABegin(unittest.TestCase):
    def test_all_else_is_refused(self):
        for call in ALL_BUT_BEGIN:
            self.assertEqual(answers(call), [1, -11])
            self.assertEqual(answers(call + begin(1) + want(0)), [1, -11, 1, 0, 1, 0])

    def test_also_what_is_wrong_besides(self):
        for call in (coin(-1, 5, 0), all_of(999), all_of(1, *([7] * 70)), many(999, -1, 9, 3), drop(-1), want(7),
                     lay(-1, 7), lift(-1), choose(-1)):
            self.assertEqual(ask(call, begin(1)), [-11, 0])

    def test_a_refused_begin_is_none(self):
        for call in ALL_BUT_BEGIN:
            self.assertEqual(answers(begin(0) + call + begin(11) + call), [1, -22, 1, -11, 1, -22, 1, -11])

    def test_nothing_is_kept_of_them(self):
        line = [all_of(1, 0), want(1), lay(0, 1), begin(1)]
        self.assertEqual(ask(*line, drop(0), want(0), lift(0)), [-11, -11, -11, 0, -2, 0, -33])


class Lists(unittest.TestCase):
    def test_the_answers_stand_one_behind_another(self):
        self.assertEqual(answers(LINE), [number for given in EXPECTED for number in (1, given)])

    def test_one_call(self):
        self.assertEqual(answers([0, 5]), [1, 0])

    def test_sixty_calls_with_the_longest_rows(self):
        row = [2147483647] * 70
        self.assertEqual(ask(begin(10), *([many(1, 1, *row)] * 58), all_of(1, 0)), [0, *([-22] * 58), 0])

    def test_sixty_calls_that_reckon(self):
        terms = [many(k - 6, 5, *range(10)) for k in range(12)]
        line = [begin(10), *terms, *([choose(9), lift(9)] * 23), want(0)]
        self.assertEqual(len(ask(*line)), 60)

    def test_numbers_in_a_refused_row_are_not_calls(self):
        self.assertEqual(ask(begin(2), all_of(1, 0, 99, 5, 1), want(0)), [0, -22, 0])

    def test_what_is_handed_in_stays(self):
        calls = list(LINE)
        answers(calls)
        self.assertEqual(calls, LINE)

    def test_what_is_handed_in_is_never_changed(self):
        class Unchanging(list):
            def refuse(self, *given, **named):
                raise AssertionError("the list was changed")

            append = extend = insert = pop = remove = clear = sort = reverse = refuse
            __setitem__ = __delitem__ = __iadd__ = __imul__ = refuse

        self.assertEqual(answers(Unchanging(LINE)), answers(LINE))

    def test_the_same_again(self):
        calls = list(LINE)
        first = answers(calls)
        kept = list(first)
        second = answers(calls)
        self.assertEqual(second, kept)
        second.append(5)
        self.assertEqual(first, kept)
        self.assertEqual(answers(calls), kept)

    def test_every_line_begins_anew(self):
        answers(one_list([begin(2), want(1), all_of(1, 0)]))
        self.assertEqual(ask(want(0)), [-11])
        self.assertEqual(ask(begin(1), want(0), drop(0)), [0, 0, -2])

    def test_whole_numbers_in_a_list(self):
        given = answers(LINE)
        self.assertIs(type(given), list)
        self.assertTrue(all(type(number) is int for number in given))

    def test_nothing_is_printed(self):
        out = io.StringIO()
        with contextlib.redirect_stdout(out), contextlib.redirect_stderr(out):
            answers(LINE)
        self.assertEqual(out.getvalue(), "")


class Files(unittest.TestCase):
    """What of the language's rules a short look can tell."""

    def trees(self):
        for path in sorted(PACKAGE.glob("*.py")):
            yield path, ast.parse(path.read_text(encoding="utf-8"))

    def test_nothing_is_imported(self):
        for path, tree in self.trees():
            for node in ast.walk(tree):
                self.assertNotIsInstance(node, (ast.Import, ast.ImportFrom), path)
                if isinstance(node, ast.Name):
                    self.assertNotIn(node.id, ("print", "open", "input", "exec", "eval", "__import__"), path)

    def test_sizes_and_signs(self):
        for path, tree in self.trees():
            text = path.read_text(encoding="utf-8")
            self.assertTrue(all(sign == "\n" or " " <= sign <= "~" for sign in text), path)
            self.assertLessEqual(len(text.splitlines()), 400, path)
            self.assertLessEqual(max(len(row) for row in text.splitlines()), 120, path)
            for node in ast.walk(tree):
                if isinstance(node, ast.FunctionDef):
                    self.assertLessEqual(node.end_lineno - node.lineno + 1, 40, node.name)

    def test_only_modules_lie_in_the_package(self):
        names = sorted(path.name for path in PACKAGE.iterdir() if path.name != "__pycache__")
        self.assertEqual(names, ["__init__.py", "onebyone.py"])
