"""The package keeps to the small part of Python that it is written in, as far as a reader of its text can see."""

import ast
import builtins
import pathlib
import re
import unittest

PACKAGE = pathlib.Path(__file__).resolve().parent.parent / "twogroups"

BUILT_IN = set("""
    len range enumerate zip min max sum abs sorted reversed int str bool list tuple dict set frozenset isinstance
    ord repr any all divmod Exception ValueError TypeError KeyError IndexError LookupError ZeroDivisionError
    ArithmeticError OverflowError RuntimeError NotImplementedError AttributeError StopIteration
""".split())

METHODS = set("""
    append clear copy count endswith extend find get index insert isalnum isalpha isdigit islower isspace isupper
    items join keys ljust lower lstrip partition pop remove replace reverse rfind rjust rpartition rsplit rstrip
    setdefault split splitlines startswith strip update upper values zfill bit_length
""".split())

WORDS = re.compile(r"\b(type|typing|typing_extensions|enum|Enum|IntEnum|StrEnum|Flag|IntFlag|Generic|Protocol|ABC|"
                   r"ABCMeta|namedtuple|NamedTuple|TypedDict|TYPE_CHECKING|abstractmethod)\b|"
                   r"dataclass|overload|contextmanager")

NODES = (
    ast.Module, ast.Expr, ast.Constant, ast.ImportFrom, ast.alias, ast.FunctionDef, ast.arguments, ast.arg,
    ast.ClassDef, ast.Assign, ast.If, ast.While, ast.For, ast.Return, ast.Break, ast.Continue, ast.Pass, ast.Raise,
    ast.Try, ast.ExceptHandler, ast.Name, ast.Attribute, ast.Subscript, ast.Slice, ast.Call, ast.keyword,
    ast.List, ast.Tuple, ast.Dict, ast.ListComp, ast.comprehension, ast.BinOp, ast.UnaryOp, ast.BoolOp,
    ast.Compare, ast.IfExp, ast.Lambda, ast.AugAssign, ast.JoinedStr, ast.FormattedValue,
    ast.expr_context, ast.operator, ast.unaryop, ast.boolop, ast.cmpop,
)


def names_bound(tree):
    bound = set()
    for node in ast.walk(tree):
        if isinstance(node, (ast.FunctionDef, ast.ClassDef)):
            bound.add(node.name)
        elif isinstance(node, ast.arg):
            bound.add(node.arg)
        elif isinstance(node, ast.Name) and isinstance(node.ctx, ast.Store):
            bound.add(node.id)
        elif isinstance(node, ast.alias):
            bound.add(node.name)
    return bound


class Language(unittest.TestCase):
    def setUp(self):
        self.texts = {path.name: path.read_bytes() for path in sorted(PACKAGE.glob("*.py"))}
        self.trees = {name: ast.parse(text) for name, text in self.texts.items()}

    def nodes(self, *kinds):
        return [(name, node) for name, tree in self.trees.items() for node in ast.walk(tree)
                if isinstance(node, kinds)]

    def test_files(self):
        there = {path.name for path in PACKAGE.iterdir() if path.name != "__pycache__"}
        self.assertEqual(there, set(self.texts))
        self.assertIn("__init__.py", there)

    def test_signs_and_sizes(self):
        for name, text in self.texts.items():
            self.assertTrue(all(sign == 10 or 32 <= sign <= 126 for sign in text), name)
            lines = text.decode().splitlines()
            self.assertLessEqual(len(lines), 400, name)
            self.assertLessEqual(max(len(row) for row in lines), 120, name)
            self.assertIsNone(WORDS.search(text.decode()), name)
        for name, node in self.nodes(ast.FunctionDef):
            self.assertLessEqual(node.end_lineno - node.lineno + 1, 40, (name, node.name))

    def test_statements_and_expressions(self):
        for name, node in self.nodes(ast.AST):
            self.assertIsInstance(node, NODES, (name, getattr(node, "lineno", None)))
        for name, node in self.nodes(ast.Div, ast.MatMult):
            self.fail(name)
        for name, node in self.nodes(ast.Constant):
            self.assertIn(type(node.value), (int, str, bool, type(None)), (name, node.lineno))
        for name, node in self.nodes(ast.Assign):
            self.assertEqual(len(node.targets), 1, (name, node.lineno))
        for name, node in self.nodes(ast.While, ast.For):
            self.assertEqual(node.orelse, [], (name, node.lineno))
        for name, node in self.nodes(ast.FunctionDef, ast.ClassDef):
            self.assertEqual(node.decorator_list, [], (name, node.lineno))

    def test_imports(self):
        for name, node in self.nodes(ast.ImportFrom):
            self.assertTrue(node.module.startswith("twogroups."), (name, node.lineno))
            self.assertIn(node, self.trees[name].body)
            self.assertNotIn("*", [alias.name for alias in node.names])
            source = self.trees[node.module.partition(".")[2] + ".py"]
            for alias in node.names:
                self.assertIn(alias.name, [n.id for n in ast.walk(source) if isinstance(n, ast.Name)]
                              + [n.name for n in source.body if isinstance(n, (ast.FunctionDef, ast.ClassDef))])

    def test_names(self):
        for name, tree in self.trees.items():
            bound = names_bound(tree)
            self.assertEqual(bound & set(dir(builtins)), set(), name)
            self.assertEqual([n for n in bound if n.startswith("_") and n != "__init__"], [], name)
            used = {node.id for node in ast.walk(tree) if isinstance(node, ast.Name)}
            self.assertEqual(used - bound - BUILT_IN, set(), name)

    def test_methods(self):
        own = {node.name for _, node in self.nodes(ast.FunctionDef)}
        for name, node in self.nodes(ast.Call):
            if isinstance(node.func, ast.Attribute):
                self.assertIn(node.func.attr, METHODS | own, (name, node.lineno))

    def test_no_name_is_a_method_and_a_value(self):
        methods = {node.name for _, owner in self.nodes(ast.ClassDef) for node in owner.body
                   if isinstance(node, ast.FunctionDef)}
        values = {node.attr for _, node in self.nodes(ast.Attribute) if isinstance(node.ctx, ast.Store)}
        self.assertEqual(methods & values, set())


if __name__ == "__main__":
    unittest.main()
