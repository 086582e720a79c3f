"""The part of Python that the package keeps to, as far as its syntax tells."""

import ast
import builtins
import pathlib
import re
import unittest

PACKAGE = pathlib.Path(__file__).resolve().parent.parent / "laidcoins"

# L4 to L7: what may stand in the package, and no other node.
NODES = (
    ast.Module, ast.FunctionDef, ast.ClassDef, ast.arguments, ast.arg, ast.Assign, ast.If, ast.While, ast.For,
    ast.Return, ast.Break, ast.Continue, ast.Pass, ast.Expr, ast.Name, ast.Constant, ast.List, ast.Tuple, ast.Dict,
    ast.BinOp, ast.UnaryOp, ast.BoolOp, ast.Compare, ast.IfExp, ast.Call, ast.Attribute, ast.Subscript, ast.Slice,
    ast.ListComp, ast.comprehension, ast.expr_context, ast.operator, ast.unaryop, ast.boolop, ast.cmpop,
)
NOT_NODES = (ast.Div, ast.MatMult, ast.Pow, ast.Is, ast.IsNot)
BUILT_IN = (
    "len", "range", "enumerate", "zip", "min", "max", "sum", "abs", "sorted", "reversed", "int", "str", "bool", "list",
    "tuple", "dict", "isinstance", "any", "all", "divmod",
)
METHODS = ("append", "copy", "count", "extend", "get", "index", "insert", "pop", "remove", "reverse")
WALKED = ("zip", "enumerate", "reversed", "range")
WORDS = (
    "type", "typing", "typing_extensions", "enum", "Enum", "IntEnum", "StrEnum", "Flag", "IntFlag", "Generic",
    "Protocol", "ABC", "ABCMeta", "namedtuple", "NamedTuple", "TypedDict", "TYPE_CHECKING", "abstractmethod",
)


class Language(unittest.TestCase):
    def setUp(self):
        self.texts = {path.name: path.read_text(encoding="utf-8") for path in sorted(PACKAGE.glob("*.py"))}
        self.trees = {name: ast.parse(text) for name, text in self.texts.items()}

    def nodes(self, *kinds):
        return [node for tree in self.trees.values() for node in ast.walk(tree) if isinstance(node, kinds)]

    def own_names(self):
        return [node.name for node in self.nodes(ast.FunctionDef, ast.ClassDef)]

    def test_only_modules_lie_in_the_package(self):
        names = sorted(path.name for path in PACKAGE.iterdir() if path.name != "__pycache__")
        self.assertEqual(names, ["__init__.py", "onebyone.py"])

    def test_sizes_and_signs(self):
        for name, text in self.texts.items():
            self.assertTrue(all(sign == "\n" or " " <= sign <= "~" for sign in text), name)
            self.assertLessEqual(len(text.splitlines()), 400, name)
            self.assertLessEqual(max(len(row) for row in text.splitlines()), 120, name)
        for node in self.nodes(ast.FunctionDef):
            self.assertLessEqual(node.end_lineno - node.lineno + 1, 40, node.name)

    def test_statements_and_expressions(self):
        for node in self.nodes(ast.AST):
            self.assertIsInstance(node, NODES, ast.dump(node))
            self.assertNotIsInstance(node, NOT_NODES)
        for node in self.nodes(ast.Assign):
            self.assertEqual(len(node.targets), 1)
            self.assertIsInstance(node.targets[0], (ast.Name, ast.Attribute, ast.Subscript))
        for node in self.nodes(ast.ListComp):
            self.assertEqual(len(node.generators), 1)
            self.assertLessEqual(len(node.generators[0].ifs), 1)
        for node in self.nodes(ast.For, ast.While):
            self.assertEqual(node.orelse, [])
        for node in self.nodes(ast.Constant):
            self.assertIn(type(node.value), (int, str, bool, type(None)))

    def test_functions_and_classes(self):
        for node in self.nodes(ast.FunctionDef):
            given = node.args
            self.assertFalse(given.vararg or given.kwarg or given.kwonlyargs or given.posonlyargs, node.name)
            self.assertFalse(node.decorator_list or node.returns, node.name)
        for node in self.nodes(ast.ClassDef):
            self.assertFalse(node.decorator_list or node.keywords or node.bases, node.name)
        for node in self.nodes(ast.Call):
            self.assertEqual(node.keywords, [])

    def test_the_top_of_a_module(self):
        bound = []
        for tree in self.trees.values():
            for node in tree.body[1:]:
                self.assertIsInstance(node, (ast.Assign, ast.FunctionDef, ast.ClassDef))
                bound.append(node.targets[0].id if isinstance(node, ast.Assign) else node.name)
                if isinstance(node, ast.Assign):
                    ast.literal_eval(node.value)
        self.assertEqual(len(bound), len(set(bound)))

    def test_names(self):
        bound = [node.id for node in self.nodes(ast.Name) if isinstance(node.ctx, ast.Store)]
        bound += [node.arg for node in self.nodes(ast.arg)] + self.own_names()
        for name in set(bound) - {"__init__"}:
            self.assertTrue(re.fullmatch("[A-Za-z][A-Za-z0-9_]*", name), name)
            self.assertFalse(hasattr(builtins, name), name)
        for node in self.nodes(ast.Name):
            self.assertTrue(node.id in bound or node.id in BUILT_IN, node.id)

    def test_methods(self):
        for node in self.nodes(ast.Call):
            if isinstance(node.func, ast.Attribute):
                self.assertIn(node.func.attr, (*METHODS, *self.own_names()))
        bodies = [node for owner in self.nodes(ast.ClassDef) for node in owner.body]
        own = [node.name for node in bodies if isinstance(node, ast.FunctionDef)]
        kept = [node.attr for node in self.nodes(ast.Attribute) if isinstance(node.ctx, ast.Store)]
        self.assertEqual(len(own), len(set(own)))
        self.assertFalse(set(own) & set(kept))
        for name in (*own, *kept):
            for python in ("", 0, [], (), {}, set(), b""):
                self.assertTrue(name == "__init__" or not hasattr(python, name), name)

    def test_walked_on_the_spot(self):
        walked = [node.iter for node in self.nodes(ast.For, ast.comprehension)]
        for node in self.nodes(ast.Call):
            if isinstance(node.func, ast.Name) and node.func.id in WALKED:
                self.assertIn(node, walked)

    def test_words_that_are_not_used(self):
        for name, text in self.texts.items():
            words = re.findall("[A-Za-z0-9_]+", text)
            self.assertFalse(set(words) & set(WORDS), name)
            self.assertFalse(re.search("dataclass|overload|contextmanager", text), name)
