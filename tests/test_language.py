"""The rules of ../shared/LANGUAGE.md that are easily seen in the package's files."""

import ast
import builtins
import pathlib
import re
import unittest

PACKAGE = pathlib.Path(__file__).resolve().parent.parent / "jobtools"
FILES = sorted(path for path in PACKAGE.rglob("*") if path.is_file() and "__pycache__" not in path.parts)

BUILT_IN = set("""len range enumerate zip min max sum abs sorted reversed int str bool list tuple dict set frozenset
isinstance ord repr any all divmod Exception ValueError TypeError KeyError IndexError LookupError ZeroDivisionError
ArithmeticError OverflowError RuntimeError NotImplementedError AttributeError StopIteration""".split())
METHODS = set("""append clear copy count endswith extend find get index insert isalnum isalpha isdigit islower isspace
isupper items join keys ljust lower lstrip partition pop remove replace reverse rfind rjust rpartition rsplit rstrip
setdefault split splitlines startswith strip update upper values zfill bit_length""".split())
PYTHONS_METHODS = {name for kind in (int, str, list, tuple, dict, set, bytes) for name in dir(kind)}
WORDS = re.compile(r"\b(type|typing|typing_extensions|enum|Enum|IntEnum|StrEnum|Flag|IntFlag|Generic|Protocol|ABC|"
                   r"ABCMeta|namedtuple|NamedTuple|TypedDict|TYPE_CHECKING|abstractmethod)\b|"
                   r"dataclass|overload|contextmanager")
NODES = tuple(getattr(ast, name) for name in """Module Expr Constant ImportFrom alias FunctionDef arguments arg ClassDef
Assign AugAssign If While For Return Break Continue Pass Raise Try ExceptHandler Name Load Store Attribute Subscript
Slice Call keyword List Tuple Dict BinOp UnaryOp BoolOp Compare IfExp ListComp comprehension Lambda JoinedStr
FormattedValue operator unaryop boolop cmpop""".split())


def nodes(path):
    return list(ast.walk(ast.parse(path.read_text("utf-8"))))


class Language(unittest.TestCase):
    def each(self, kinds):
        for path in FILES:
            for node in nodes(path):
                if isinstance(node, kinds):
                    yield node, f"{path.name}:{getattr(node, 'lineno', 0)}"

    def test_files(self):
        self.assertIn(PACKAGE / "__init__.py", FILES)
        for path in FILES:
            self.assertRegex(path.name, r"^(__init__|__main__|[a-z][a-z0-9_]*)\.py$")
            self.assertFalse(path.stem.isalpha() and hasattr(builtins, path.stem), path.name)
            text = path.read_text("utf-8")
            self.assertRegex(text, r"\A[ -~\n]*\Z", path.name)
            self.assertIsNone(WORDS.search(text), path.name)
            rows = text.split("\n")
            self.assertLessEqual(len(rows), 400, path.name)
            self.assertLessEqual(max(map(len, rows)), 120, path.name)

    def test_forms(self):
        for node, where in self.each(ast.AST):
            self.assertIsInstance(node, NODES, where)

    def test_functions(self):
        for node, where in self.each(ast.FunctionDef):
            self.assertLessEqual(node.end_lineno - node.lineno + 1, 40, where)
            self.assertEqual(node.decorator_list, [], where)
            given = node.args
            self.assertFalse(given.vararg or given.kwarg or given.kwonlyargs or given.posonlyargs, where)

    def test_imports(self):
        for node, where in self.each(ast.ImportFrom):
            self.assertRegex(node.module, r"^jobtools\.[a-z]", where)
            self.assertEqual(node.level, 0, where)

    def test_names(self):
        for node, where in self.each(ast.Name):
            self.assertRegex(node.id, r"^[A-Za-z]", where)
            if hasattr(builtins, node.id):
                self.assertIn(node.id, BUILT_IN, where)
                self.assertIsInstance(node.ctx, ast.Load, where)
        for node, where in self.each(ast.arg):
            self.assertFalse(hasattr(builtins, node.arg), where)

    def test_assignments(self):
        for node, where in self.each(ast.Assign):
            self.assertEqual(len(node.targets), 1, where)
            self.assertNotIsInstance(node.targets[0], (ast.Tuple, ast.List), where)

    def test_names_of_imports_are_not_used_otherwise(self):
        for path in FILES:
            found = nodes(path)
            drawn = {name.name for node in found if isinstance(node, ast.ImportFrom) for name in node.names}
            bound = {node.id for node in found if isinstance(node, ast.Name) and isinstance(node.ctx, ast.Store)}
            bound |= {node.arg for node in found if isinstance(node, ast.arg)}
            bound |= {node.name for node in found if isinstance(node, (ast.FunctionDef, ast.ClassDef))}
            self.assertEqual(drawn & bound, set(), path.name)
            used = {node.id for node in found if isinstance(node, ast.Name) and isinstance(node.ctx, ast.Load)}
            self.assertEqual(drawn - used, set(), path.name)

    def test_methods(self):
        for node, where in self.each(ast.Attribute):
            if node.attr in PYTHONS_METHODS:
                self.assertIn(node.attr, METHODS, where)

    def test_numbers(self):
        for node, where in self.each(ast.Constant):
            self.assertNotIsInstance(node.value, (float, complex, bytes), where)
        for node, where in self.each(ast.BinOp):
            self.assertNotIsInstance(node.op, (ast.Div, ast.MatMult), where)
            self.assertFalse(isinstance(node.op, ast.Pow) and not isinstance(node.right, ast.Constant), where)


if __name__ == "__main__":
    unittest.main()
