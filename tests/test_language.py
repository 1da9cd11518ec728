"""The rules that the package's own files keep to, as far as they can be read off the source."""

import ast
import builtins
import pathlib
import re
import unittest

PACKAGE = pathlib.Path(__file__).resolve().parent.parent / "inspector"
FILES = sorted(PACKAGE.rglob("*.py"))

STATEMENTS = (ast.Assign, ast.AugAssign, ast.If, ast.While, ast.For, ast.Return, ast.Break, ast.Continue, ast.Pass,
              ast.Raise, ast.Try, ast.Expr, ast.FunctionDef, ast.ClassDef, ast.ImportFrom)
EXPRESSIONS = (ast.Constant, ast.Name, ast.Attribute, ast.Subscript, ast.Slice, ast.Call, ast.BinOp, ast.UnaryOp,
               ast.BoolOp, ast.Compare, ast.IfExp, ast.List, ast.Tuple, ast.Dict, ast.ListComp, ast.Lambda,
               ast.JoinedStr, ast.FormattedValue)
OWN_NAMES = set("""
len range enumerate zip min max sum abs sorted reversed int str bool list tuple dict set frozenset isinstance ord repr
any all divmod Exception ValueError TypeError KeyError IndexError LookupError ZeroDivisionError ArithmeticError
OverflowError RuntimeError NotImplementedError AttributeError StopIteration
""".split())
OWN_METHODS = set("""
append clear copy count endswith extend find get index insert isalnum isalpha isdigit islower isspace isupper items
join keys ljust lower lstrip partition pop remove replace reverse rfind rjust rpartition rsplit rstrip setdefault split
splitlines startswith strip update upper values zfill bit_length
""".split())
UNUSED_WORDS = """
type typing typing_extensions enum Enum IntEnum StrEnum Flag IntFlag Generic Protocol ABC ABCMeta namedtuple NamedTuple
TypedDict TYPE_CHECKING abstractmethod
""".split()
PYTHON_VALUES = ("", 0, [], {}, set(), b"", ())


def walked():
    for path in FILES:
        tree = ast.parse(path.read_text())
        for node in ast.walk(tree):
            yield f"{path.name}:{getattr(node, 'lineno', 0)}", node


class Language(unittest.TestCase):
    def test_only_plainly_named_files(self):
        self.assertIn(PACKAGE / "__init__.py", FILES)
        for path in PACKAGE.rglob("*"):
            if "__pycache__" not in path.parts:
                self.assertRegex(path.name, r"^(__init__|[a-z][a-z0-9_]*)\.py$")
                self.assertFalse(hasattr(builtins, path.stem) and path.stem != "__init__", path.name)

    def test_sizes_and_signs(self):
        for path in FILES:
            text = path.read_text()
            self.assertRegex(text, r"\A[ -~\n]*\Z", path.name)
            rows = text.split("\n")
            self.assertLessEqual(len(rows), 400, path.name)
            self.assertLessEqual(max(map(len, rows)), 120, path.name)
        for place, node in walked():
            if isinstance(node, ast.FunctionDef):
                self.assertLessEqual(node.end_lineno - node.lineno + 1, 40, place)

    def test_statements_and_expressions(self):
        for place, node in walked():
            if isinstance(node, ast.stmt):
                self.assertIsInstance(node, STATEMENTS, place)
            elif isinstance(node, ast.expr):
                self.assertIsInstance(node, EXPRESSIONS, place)
            if isinstance(node, (ast.For, ast.While)):
                self.assertEqual(node.orelse, [], place)
            if isinstance(node, ast.Assign):
                self.assertEqual(len(node.targets), 1, place)
                self.assertNotIsInstance(node.targets[0], (ast.Tuple, ast.List), place)
            if isinstance(node, ast.Constant):
                self.assertNotIsInstance(node.value, (float, bytes, complex), place)
            if isinstance(node, ast.Expr):
                self.assertIsInstance(node.value, (ast.Call, ast.Constant), place)
            self.assertNotIsInstance(node, (ast.Div, ast.MatMult), place)

    def test_functions_are_plain(self):
        for place, node in walked():
            if isinstance(node, ast.FunctionDef):
                self.assertEqual(node.decorator_list, [], place)
                taken = node.args
                self.assertIsNone(taken.vararg, place)
                self.assertIsNone(taken.kwarg, place)
                self.assertEqual(taken.kwonlyargs + taken.posonlyargs, [], place)

    def test_imports_are_the_package_s_own(self):
        for place, node in walked():
            if isinstance(node, ast.ImportFrom):
                self.assertEqual(node.level, 0, place)
                self.assertRegex(node.module, r"^inspector\.[a-z]+$", place)
                source = ast.parse((PACKAGE / (node.module.split(".")[1] + ".py")).read_text())
                defined = {name for row in source.body for name in bound_by(row)}
                for name in node.names:
                    self.assertIsNone(name.asname, place)
                    self.assertIn(name.name, defined, place)

    def test_names(self):
        for path in FILES:
            tree = ast.parse(path.read_text())
            taken = {name.name for row in tree.body if isinstance(row, ast.ImportFrom) for name in row.names}
            taken |= {row.name for row in tree.body if isinstance(row, ast.ClassDef)}
            tops = [name for row in tree.body for name in bound_by(row)]
            self.assertEqual(len(tops), len(set(tops)), path.name)
            for node in ast.walk(tree):
                names = [node.arg] if isinstance(node, ast.arg) else []
                if isinstance(node, ast.Name) and isinstance(node.ctx, ast.Store):
                    names.append(node.id)
                for name in names:
                    self.assertNotIn(name, taken, path.name)
                    self.assertRegex(name, r"^[A-Za-z][A-Za-z0-9_]*$", path.name)
                    self.assertFalse(hasattr(builtins, name), (path.name, name))
                if isinstance(node, ast.Name) and hasattr(builtins, node.id):
                    self.assertIn(node.id, OWN_NAMES, path.name)

    def test_unused_words(self):
        for path in FILES:
            words = set(re.findall(r"\w+", path.read_text()))
            self.assertEqual(words & set(UNUSED_WORDS), set(), path.name)

    def test_methods_and_values(self):
        methods, values, attributes = set(), set(), set()
        for place, node in walked():
            if isinstance(node, ast.ClassDef):
                methods |= {row.name for row in node.body if isinstance(row, ast.FunctionDef)}
            if isinstance(node, ast.Attribute):
                attributes.add(node.attr)
                if isinstance(node.ctx, ast.Store):
                    values.add(node.attr)
                    self.assertIsInstance(node.value, ast.Name, place)
        self.assertEqual(methods & values, set())
        for name in (methods | values) - {"__init__"}:
            self.assertFalse(any(hasattr(value, name) for value in PYTHON_VALUES), name)
        self.assertLessEqual(attributes - methods - values, OWN_METHODS)


def bound_by(row):
    if isinstance(row, (ast.FunctionDef, ast.ClassDef)):
        return [row.name]
    if isinstance(row, ast.Assign):
        return [target.id for target in row.targets]
    return []


if __name__ == "__main__":
    unittest.main()
