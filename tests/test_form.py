"""The form of the package's files: part of the language's rules (files, sizes, statements, names, methods)."""

import ast
import builtins
import re
import unittest
from pathlib import Path

PACKAGE = Path(__file__).resolve().parent.parent / "cakeshares"
OWN_NAMES = """len range enumerate zip min max sum abs sorted reversed int str bool list tuple dict set frozenset
isinstance ord repr any all divmod Exception ValueError TypeError KeyError IndexError LookupError ZeroDivisionError
ArithmeticError OverflowError RuntimeError NotImplementedError AttributeError StopIteration""".split()
STATEMENTS = (ast.FunctionDef, ast.ClassDef, ast.Assign, ast.AugAssign, ast.If, ast.While, ast.For, ast.Return,
              ast.Break, ast.Continue, ast.Pass, ast.Raise, ast.Try, ast.Expr)
EXPRESSIONS = (ast.BoolOp, ast.BinOp, ast.UnaryOp, ast.Lambda, ast.IfExp, ast.Dict, ast.ListComp, ast.Compare, ast.Call,
               ast.JoinedStr, ast.FormattedValue, ast.Constant, ast.Attribute, ast.Subscript, ast.Name, ast.List,
               ast.Tuple, ast.Slice)
METHODS = """append clear copy count endswith extend find get index insert isalnum isalpha isdigit islower isspace isupper
items join keys ljust lower lstrip partition pop remove replace reverse rfind rjust rpartition rsplit rstrip setdefault
split splitlines startswith strip update upper values zfill bit_length""".split()
BANNED_WORDS = """type typing typing_extensions enum Enum IntEnum StrEnum Flag IntFlag Generic Protocol ABC ABCMeta
namedtuple NamedTuple TypedDict TYPE_CHECKING abstractmethod""".split()
PYTHONS_OWN_VALUES = ("", 0, [], {}, set(), b"", ())


def trees():
    return [(path, ast.parse(path.read_text())) for path in sorted(PACKAGE.glob("*.py"))]


def nodes(kind):
    return [(path, node) for path, tree in trees() for node in ast.walk(tree) if isinstance(node, kind)]


def bound_names(tree):
    names = {node.id for node in ast.walk(tree) if isinstance(node, ast.Name) and isinstance(node.ctx, ast.Store)}
    names |= {node.arg for node in ast.walk(tree) if isinstance(node, ast.arg)}
    return names | {node.name for node in ast.walk(tree) if isinstance(node, (ast.FunctionDef, ast.ClassDef))}


class Form(unittest.TestCase):
    def test_files(self):
        files = sorted(path.name for path in PACKAGE.iterdir() if path.name != "__pycache__")
        self.assertEqual(files, ["__init__.py", "cake.py"])

    def test_signs_and_sizes(self):
        for path, tree in trees():
            text = path.read_bytes()
            self.assertTrue(all(32 <= sign <= 126 or sign == 10 for sign in text), path)
            rows = text.decode().splitlines()
            self.assertLessEqual(len(rows), 400)
            self.assertLessEqual(max(len(row) for row in rows), 120)
        for path, node in nodes(ast.FunctionDef):
            self.assertLessEqual(node.end_lineno - node.lineno + 1, 40, node.name)

    def test_nothing_is_imported(self):
        self.assertEqual(nodes((ast.Import, ast.ImportFrom)), [])

    def test_statements_and_expressions(self):
        for path, node in nodes(ast.stmt):
            self.assertIsInstance(node, STATEMENTS, node.lineno)
        for path, node in nodes(ast.expr):
            self.assertIsInstance(node, EXPRESSIONS, node.lineno)
        for path, node in nodes((ast.Div, ast.MatMult)):
            self.fail("an operator that is out")
        for path, node in nodes(ast.Constant):
            self.assertIsInstance(node.value, (int, str, type(None)), node.lineno)
        for path, node in nodes(ast.Assign):
            self.assertEqual(len(node.targets), 1, node.lineno)
            self.assertIsInstance(node.targets[0], (ast.Name, ast.Attribute, ast.Subscript), node.lineno)
        for path, node in nodes((ast.While, ast.For)):
            self.assertEqual(node.orelse, [], node.lineno)
        for path, node in nodes(ast.ListComp):
            self.assertEqual(len(node.generators), 1)
            self.assertLessEqual(len(node.generators[0].ifs), 1)

    def test_the_top_of_a_module(self):
        for path, tree in trees():
            self.assertIsInstance(tree.body[0].value.value, str)
            for node in tree.body[1:]:
                self.assertIsInstance(node, (ast.Assign, ast.FunctionDef, ast.ClassDef), node.lineno)
                if isinstance(node, ast.Assign):
                    self.assertIsInstance(ast.literal_eval(node.value), (int, str, tuple), node.lineno)
            bound = [node.targets[0].id if isinstance(node, ast.Assign) else node.name for node in tree.body[1:]]
            self.assertEqual(len(bound), len(set(bound)))

    def test_functions_and_classes(self):
        for path, node in nodes(ast.FunctionDef):
            given = node.args
            self.assertEqual((given.vararg, given.kwarg, given.kwonlyargs, given.posonlyargs), (None, None, [], []))
            self.assertEqual((node.decorator_list, node.returns), ([], None))
        for path, node in nodes(ast.ClassDef):
            self.assertEqual((node.decorator_list, node.keywords), ([], []))
            self.assertTrue(all(isinstance(part, (ast.FunctionDef, ast.Expr)) for part in node.body))

    def test_names(self):
        for path, tree in trees():
            bound = bound_names(tree)
            used = {node.id for node in ast.walk(tree) if isinstance(node, ast.Name)}
            self.assertLessEqual(used - bound, set(OWN_NAMES), path)
            self.assertFalse({name for name in bound if name in dir(builtins)}, path)
            self.assertFalse({name for name in bound if name.startswith("_")} - {"__init__"}, path)
            tops = {node.name for node in tree.body if isinstance(node, (ast.FunctionDef, ast.ClassDef))}
            stored = {node.id for node in ast.walk(tree) if isinstance(node, ast.Name)
                      and isinstance(node.ctx, ast.Store)} | {node.arg for node in ast.walk(tree)
                                                              if isinstance(node, ast.arg)}
            self.assertFalse(tops & stored, path)

    def test_own_methods_and_values(self):
        pythons = {name for value in PYTHONS_OWN_VALUES for name in dir(value)}
        own = {part.name for path, node in nodes(ast.ClassDef) for part in node.body
               if isinstance(part, ast.FunctionDef)} - {"__init__"}
        values = {node.attr for path, node in nodes(ast.Attribute) if isinstance(node.ctx, ast.Store)}
        self.assertFalse((own | values) & pythons)
        self.assertFalse(own & values)
        for path, node in nodes(ast.Attribute):
            self.assertIn(node.attr, own | values | set(METHODS), node.lineno)

    def test_words_that_stand_nowhere(self):
        for path, tree in trees():
            words = set(re.findall(r"\w+", path.read_text()))
            self.assertFalse(words & set(BANNED_WORDS), path)


if __name__ == "__main__":
    unittest.main()
