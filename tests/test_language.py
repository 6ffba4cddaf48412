"""The package keeps to the part of Python that it is to be written in, as far as that can be seen from its rows."""

import ast
import builtins
import pathlib
import re
import unittest

FOLDER = pathlib.Path(__file__).resolve().parent.parent / "evenformdesk"
FILES = sorted(path for path in FOLDER.rglob("*") if "__pycache__" not in path.parts)

OWN_NAMES = """len range enumerate zip min max sum abs sorted reversed int str bool list tuple dict set frozenset isinstance
ord repr any all divmod Exception ValueError TypeError KeyError IndexError LookupError ZeroDivisionError ArithmeticError
OverflowError RuntimeError NotImplementedError AttributeError StopIteration""".split()

OWN_METHODS = """append clear copy count endswith extend find get index insert isalnum isalpha isdigit islower isspace isupper
items join keys ljust lower lstrip partition pop remove replace reverse rfind rjust rpartition rsplit rstrip setdefault split
splitlines startswith strip update upper values zfill bit_length""".split()

WORDS_OUT = """type typing typing_extensions enum Enum IntEnum StrEnum Flag IntFlag Generic Protocol ABC ABCMeta namedtuple
NamedTuple TypedDict TYPE_CHECKING abstractmethod""".split()

NAMES_OUT = """register mro elements open input version_info with_traceback add_note attrgetter breakpoint compile copyright
credits delattr dir eval exec exit gc getattr globals hasattr help id importlib license locals methodcaller os quit setattr
super type vars sys chr print format format_map""".split()

STATEMENTS = (
    ast.FunctionDef, ast.ClassDef, ast.Assign, ast.AugAssign, ast.If, ast.While, ast.For, ast.Return, ast.Break,
    ast.Continue, ast.Pass, ast.Raise, ast.Try, ast.Expr, ast.ImportFrom,
)

EXPRESSIONS = (
    ast.Constant, ast.List, ast.Tuple, ast.Dict, ast.BinOp, ast.UnaryOp, ast.BoolOp, ast.Compare, ast.IfExp, ast.Call,
    ast.Attribute, ast.Subscript, ast.Slice, ast.ListComp, ast.Name, ast.Lambda,
)


def nodes_of(path):
    return list(ast.walk(ast.parse(path.read_text(encoding="utf-8"))))


def own_attributes():
    return {node.attr for path in FILES for node in nodes_of(path)
            if isinstance(node, ast.Attribute) and isinstance(node.ctx, ast.Store)}


def own_defs():
    return {node.name for path in FILES for node in nodes_of(path) if isinstance(node, ast.FunctionDef)}


class Language(unittest.TestCase):
    def test_files(self):
        self.assertIn("desk.py", [path.name for path in FILES])
        self.assertIn("__init__.py", [path.name for path in FILES])
        for path in FILES:
            self.assertRegex(path.name, r"\A([a-z][a-z0-9_]*|__init__)\.py\Z")

    def test_size_and_signs(self):
        for path in FILES:
            rows = path.read_text(encoding="utf-8").split("\n")
            self.assertLessEqual(len(rows), 401, path)
            for row in rows:
                self.assertRegex(row, r"\A[ -~]{0,120}\Z")
            for node in nodes_of(path):
                if isinstance(node, ast.FunctionDef):
                    self.assertLessEqual(node.end_lineno - node.lineno + 1, 40, node.name)

    def test_words(self):
        for path in FILES:
            words = re.findall(r"\w+", path.read_text(encoding="utf-8"))
            self.assertEqual(set(words) & set(WORDS_OUT), set(), path)
            for word in words:
                self.assertNotRegex(word, "dataclass|overload|contextmanager")

    def test_imports(self):
        for path in FILES:
            for node in nodes_of(path):
                self.assertNotIsInstance(node, ast.Import)
                if isinstance(node, ast.ImportFrom):
                    self.assertRegex(node.module, r"\Aevenformdesk\.\w+\Z")
                    self.assertEqual(node.level, 0)
                    self.assertTrue(all(alias.asname is None for alias in node.names))

    def test_statements_and_expressions(self):
        for path in FILES:
            for node in nodes_of(path):
                if isinstance(node, ast.stmt):
                    self.assertIsInstance(node, STATEMENTS, path)
                if isinstance(node, ast.expr):
                    self.assertIsInstance(node, EXPRESSIONS, path)
                if isinstance(node, ast.Constant):
                    self.assertIsInstance(node.value, (int, str, type(None)), path)
                if isinstance(node, ast.Assign):
                    self.assertEqual(len(node.targets), 1)
                if isinstance(node, (ast.For, ast.While)):
                    self.assertEqual(node.orelse, [])
                if isinstance(node, (ast.FunctionDef, ast.ClassDef)):
                    self.assertEqual(node.decorator_list, [])
                self.assertNotIsInstance(node, ast.Div)

    def test_names(self):
        known = set(dir(builtins))
        for path in FILES:
            for node in nodes_of(path):
                if isinstance(node, ast.Name):
                    self.assertRegex(node.id, r"\A[A-Za-z]")
                    self.assertNotIn(node.id, NAMES_OUT)
                    if node.id in known:
                        self.assertIn(node.id, OWN_NAMES)
                        self.assertIsInstance(node.ctx, ast.Load)
                if isinstance(node, ast.arg):
                    self.assertNotIn(node.arg, known)

    def test_methods_and_values(self):
        values = own_attributes()
        defs = own_defs()
        self.assertEqual(values & defs, set())
        taken = {name for kind in (str, int, list, dict, set, bytes) for name in dir(kind)}
        self.assertEqual(values & taken, set())
        for path in FILES:
            for node in nodes_of(path):
                if isinstance(node, ast.Attribute):
                    self.assertIn(node.attr, values | defs | set(OWN_METHODS))
                    self.assertNotIn(node.attr, NAMES_OUT)

    def test_locals_are_not_called_like_imports(self):
        for path in FILES:
            nodes = nodes_of(path)
            outer = {alias.name for node in nodes if isinstance(node, ast.ImportFrom) for alias in node.names}
            outer |= {node.name for node in nodes if isinstance(node, (ast.ClassDef, ast.FunctionDef))}
            stored = {node.id for node in nodes if isinstance(node, ast.Name) and isinstance(node.ctx, ast.Store)}
            stored |= {node.arg for node in nodes if isinstance(node, ast.arg)}
            self.assertEqual(outer & stored, set(), path)


if __name__ == "__main__":
    unittest.main()
