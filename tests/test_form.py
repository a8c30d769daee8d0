"""The form of the package's own files: the small part of Python that they keep to."""

import ast
import builtins
import re
import unittest
from pathlib import Path

PACKAGE = Path(__file__).resolve().parent.parent / "rowbetween"
FILES = sorted(path for path in PACKAGE.rglob("*") if path.is_file() and "__pycache__" not in path.parts)

STATEMENTS = (
    ast.FunctionDef, ast.ClassDef, ast.ImportFrom, ast.Assign, ast.AugAssign, ast.If, ast.While, ast.For, ast.Return,
    ast.Break, ast.Continue, ast.Pass, ast.Raise, ast.Try, ast.Expr,
)
EXPRESSIONS = (
    ast.BoolOp, ast.BinOp, ast.UnaryOp, ast.Lambda, ast.IfExp, ast.Dict, ast.Set, ast.ListComp, ast.Compare, ast.Call,
    ast.FormattedValue, ast.JoinedStr, ast.Constant, ast.Attribute, ast.Subscript, ast.Name, ast.List, ast.Tuple,
    ast.Slice,
)
OPERATORS = (
    ast.Add, ast.Sub, ast.Mult, ast.FloorDiv, ast.Mod, ast.Pow, ast.LShift, ast.RShift, ast.BitOr, ast.BitAnd,
    ast.BitXor,
)
BUILT_IN = """
len range enumerate zip min max sum abs sorted reversed int str bool list tuple dict set frozenset isinstance ord repr
any all divmod Exception ValueError TypeError KeyError IndexError LookupError ZeroDivisionError ArithmeticError
OverflowError RuntimeError NotImplementedError AttributeError StopIteration
""".split()
METHODS = """
append clear copy count endswith extend find get index insert isalnum isalpha isdigit islower isspace isupper items
join keys ljust lower lstrip partition pop remove replace reverse rfind rjust rpartition rsplit rstrip setdefault
split splitlines startswith strip update upper values zfill bit_length
""".split()
WORDS = """
type typing typing_extensions enum Enum IntEnum StrEnum Flag IntFlag Generic Protocol ABC ABCMeta namedtuple
NamedTuple TypedDict TYPE_CHECKING abstractmethod
""".split()
DOUBLE = ("__init__", "__eq__", "__repr__", "__str__", "__len__")


def bound_at_the_top(tree):
    """The names that a file's own rows bind at its top."""
    names = []
    for node in tree.body:
        if isinstance(node, (ast.FunctionDef, ast.ClassDef)):
            names.append(node.name)
        if isinstance(node, ast.Assign):
            names.extend(target.id for target in node.targets)
    return names


class Form(unittest.TestCase):
    def trees(self):
        for path in FILES:
            tree = ast.parse(path.read_text(encoding="ascii"))
            for node in ast.walk(tree):
                yield path.name, node

    def test_there_are_only_plain_files(self):
        names = [str(path.relative_to(PACKAGE)) for path in FILES]
        self.assertIn("__init__.py", names)
        for name in names:
            self.assertRegex(name, r"^[a-z0-9_]+\.py$")

    def test_signs_and_sizes(self):
        for path in FILES:
            text = path.read_text(encoding="ascii")
            self.assertTrue(all(sign == "\n" or " " <= sign <= "~" for sign in text), path.name)
            lines = text.split("\n")
            self.assertLessEqual(len(lines), 401, path.name)
            self.assertLessEqual(max(len(line) for line in lines), 120, path.name)

    def test_functions_are_short_and_plain(self):
        for name, node in self.trees():
            if isinstance(node, ast.FunctionDef):
                self.assertLessEqual(node.end_lineno - node.lineno + 1, 40, (name, node.name))
                handed = node.args
                self.assertFalse(handed.vararg or handed.kwarg or handed.kwonlyargs or handed.posonlyargs)
                self.assertFalse(node.decorator_list, (name, node.name))

    def test_words_that_stand_nowhere(self):
        for path in FILES:
            text = path.read_text(encoding="ascii")
            for word in WORDS:
                self.assertIsNone(re.search(rf"\b{word}\b", text), (path.name, word))
            self.assertIsNone(re.search("dataclass|overload|contextmanager", text), path.name)

    def test_statements_and_expressions(self):
        for name, node in self.trees():
            where = (name, getattr(node, "lineno", 0))
            if isinstance(node, ast.stmt):
                self.assertIsInstance(node, STATEMENTS, where)
            if isinstance(node, ast.expr):
                self.assertIsInstance(node, EXPRESSIONS, where)
            if isinstance(node, ast.operator):
                self.assertIsInstance(node, OPERATORS, where)
            if isinstance(node, ast.Assign):
                self.assertEqual(len(node.targets), 1, where)
            if isinstance(node, (ast.For, ast.While)):
                self.assertEqual(node.orelse, [], where)
            if isinstance(node, ast.Try):
                self.assertEqual(node.finalbody, [], where)
            if isinstance(node, ast.Constant):
                self.assertIn(type(node.value), (int, str, bool, type(None)), where)

    def test_imports_are_the_packages_own(self):
        for name, node in self.trees():
            if isinstance(node, ast.ImportFrom):
                self.assertEqual(node.level, 0)
                self.assertTrue(node.module.startswith("rowbetween."), (name, node.module))
                self.assertNotIn("*", [alias.name for alias in node.names])

    def test_a_name_is_drawn_from_the_file_that_defines_it(self):
        for name, node in self.trees():
            if isinstance(node, ast.ImportFrom):
                drawn = ast.parse((PACKAGE / (node.module.split(".")[1] + ".py")).read_text(encoding="ascii"))
                for alias in node.names:
                    self.assertIn(alias.name, bound_at_the_top(drawn), (name, node.lineno))
                    self.assertIsNone(alias.asname, (name, node.lineno))

    def test_no_two_files_draw_from_one_another(self):
        draws = {path.stem: [] for path in FILES}
        for name, node in self.trees():
            if isinstance(node, ast.ImportFrom):
                draws[name[:-3]].append(node.module.split(".")[1])
        while draws:
            ready = [stem for stem, others in draws.items() if not set(others) & set(draws)]
            self.assertNotEqual(ready, [], draws)
            for stem in ready:
                draws.pop(stem)

    def test_a_name_is_bound_once_at_the_top(self):
        for path in FILES:
            names = bound_at_the_top(ast.parse(path.read_text(encoding="ascii")))
            self.assertEqual(len(names), len(set(names)), path.name)

    def test_no_local_is_called_like_what_is_bound_at_the_top(self):
        for path in FILES:
            tree = ast.parse(path.read_text(encoding="ascii"))
            outer = set(bound_at_the_top(tree)) | {
                alias.name for node in tree.body if isinstance(node, ast.ImportFrom) for alias in node.names
            }
            for top in tree.body:
                for node in ast.walk(top) if isinstance(top, (ast.FunctionDef, ast.ClassDef)) else []:
                    if isinstance(node, ast.arg):
                        self.assertNotIn(node.arg, outer, (path.name, node.lineno))
                    if isinstance(node, ast.Name) and isinstance(node.ctx, ast.Store):
                        self.assertNotIn(node.id, outer, (path.name, node.lineno))

    def test_names(self):
        for name, node in self.trees():
            where = (name, getattr(node, "lineno", 0))
            if isinstance(node, ast.Name):
                self.assertFalse(node.id.startswith("_"), where)
                if hasattr(builtins, node.id):
                    self.assertIsInstance(node.ctx, ast.Load, where)
                    self.assertIn(node.id, BUILT_IN, where)
            if isinstance(node, ast.arg):
                self.assertFalse(node.arg.startswith("_") or hasattr(builtins, node.arg), where)
            if isinstance(node, ast.FunctionDef):
                self.assertTrue(node.name in DOUBLE or not node.name.startswith("_"), where)

    def test_methods_of_pythons_own_values(self):
        for name, node in self.trees():
            if isinstance(node, ast.Call) and isinstance(node.func, ast.Attribute):
                self.assertIn(node.func.attr, METHODS + ["__init__"], (name, node.lineno))

    def test_is_stands_beside_none_true_and_false(self):
        for name, node in self.trees():
            if isinstance(node, ast.Compare) and isinstance(node.ops[0], (ast.Is, ast.IsNot)):
                self.assertIsInstance(node.comparators[0], ast.Constant, (name, node.lineno))


if __name__ == "__main__":
    unittest.main()
