"""The form of the package's own files: those rules of LANGUAGE.md that are easily read off a file."""

import ast
import builtins
import pathlib
import re
import unittest

PACKAGE = pathlib.Path(__file__).resolve().parent.parent / "groupcost"
FILES = sorted(path for path in PACKAGE.rglob("*") if path.is_file() and "__pycache__" not in path.parts)

NODES = """Module FunctionDef ClassDef arguments arg Return Assign AugAssign For While If Raise Try ExceptHandler
    ImportFrom alias Expr Pass Break Continue BoolOp And Or BinOp Add Sub Mult FloorDiv Mod Pow LShift RShift BitOr
    BitXor BitAnd UnaryOp Not USub UAdd Invert Lambda IfExp Dict Set ListComp comprehension Compare Eq NotEq Lt LtE Gt
    GtE Is IsNot In NotIn Call keyword FormattedValue JoinedStr Constant Attribute Subscript Slice Name Load Store List
    Tuple""".split()
OWN_NAMES = """len range enumerate zip min max sum abs sorted reversed int str bool list tuple dict set frozenset
    isinstance ord repr any all divmod Exception ValueError TypeError KeyError IndexError LookupError
    ZeroDivisionError ArithmeticError OverflowError RuntimeError NotImplementedError AttributeError
    StopIteration""".split()
METHODS = """append clear copy count endswith extend find get index insert isalnum isalpha isdigit islower isspace
    isupper items join keys ljust lower lstrip partition pop remove replace reverse rfind rjust rpartition rsplit
    rstrip setdefault split splitlines startswith strip update upper values zfill bit_length __init__""".split()
PYTHONS_METHODS = {name for kind in (str, int, list, dict, set, tuple, bytes) for name in vars(kind)}
WORDS = re.compile(
    r"\b(type|typing|typing_extensions|enum|Enum|IntEnum|StrEnum|Flag|IntFlag|Generic|Protocol|ABC|ABCMeta|namedtuple"
    r"|NamedTuple|TypedDict|TYPE_CHECKING|abstractmethod)\b|dataclass|overload|contextmanager"
)


def bound_names(tree):
    """Every name that the file gives a meaning to, with its row."""
    for node in ast.walk(tree):
        if isinstance(node, ast.Name) and isinstance(node.ctx, ast.Store):
            yield node.id, node.lineno
        if isinstance(node, ast.arg):
            yield node.arg, node.lineno
        if isinstance(node, (ast.FunctionDef, ast.ClassDef)):
            yield node.name, node.lineno


class FormTest(unittest.TestCase):
    def each(self):
        for path in FILES:
            text = path.read_text(encoding="utf-8")
            yield path, text, ast.parse(text)

    def test_files(self):
        self.assertIn(PACKAGE / "__init__.py", FILES)
        for path in FILES:
            self.assertRegex(path.name, r"^[a-z0-9_]+\.py$", "L1, L14")

    def test_signs_and_words(self):
        for path, text, _ in self.each():
            self.assertEqual(set(re.findall(r"[^ -~\n]", text)), set(), f"L14 {path}")
            self.assertIsNone(WORDS.search(text), f"L17 {path}")

    def test_sizes(self):
        for path, text, tree in self.each():
            rows = text.split("\n")
            self.assertLessEqual(len(rows), 400, f"L10 {path}")
            self.assertLessEqual(max(map(len, rows)), 120, f"L10 {path}")
            for node in ast.walk(tree):
                if isinstance(node, ast.FunctionDef):
                    self.assertLessEqual(node.end_lineno - node.lineno + 1, 40, f"L10 {path} {node.name}")

    def test_imports_come_from_the_defining_files(self):
        defined = {}
        drawn = {}
        for path, _, tree in self.each():
            module = f"groupcost.{path.stem}"
            defined[module] = [name for name, _ in bound_names(tree)]
            drawn[module] = [node for node in ast.walk(tree) if isinstance(node, ast.ImportFrom)]
        for module, rows in drawn.items():
            for node in rows:
                self.assertIn(node.module, defined, f"L2 {module}")
                for drawn_name in node.names:
                    self.assertIn(drawn_name.name, defined[node.module], f"L16 {module}")
                    self.assertNotIn(drawn_name.name, defined[module], f"L15 {module}")

    def test_no_two_files_draw_from_one_another(self):
        drawn = {}
        for path, _, tree in self.each():
            drawn[path.stem] = {
                node.module.split(".")[-1] for node in ast.walk(tree) if isinstance(node, ast.ImportFrom)
            }
        while drawn:
            # What draws from none of the rest is done with; in a circle nothing ever is.
            done = [module for module, others in drawn.items() if not others & set(drawn)]
            self.assertTrue(done, f"L16 {sorted(drawn)}")
            drawn = {module: others for module, others in drawn.items() if module not in done}

    def test_kinds_of_statements_and_expressions(self):
        for path, _, tree in self.each():
            for node in ast.walk(tree):
                place = f"{path} {getattr(node, 'lineno', '')} {node}"
                self.assertIn(type(node).__name__, NODES, f"L6, L7 {place}")
                if isinstance(node, ast.ListComp):
                    self.assertEqual(len(node.generators), 1, f"L7 {place}")
                    self.assertLessEqual(len(node.generators[0].ifs), 1, f"L7 {place}")
                if isinstance(node, ast.Assign):
                    self.assertEqual(len(node.targets), 1, f"L6 {place}")
                    self.assertNotIsInstance(node.targets[0], (ast.Tuple, ast.List), f"L6 {place}")
                if isinstance(node, ast.Compare) and isinstance(node.ops[0], (ast.Is, ast.IsNot)):
                    self.assertIsInstance(node.comparators[0], ast.Constant, f"L20 {place}")
                    self.assertIn(node.comparators[0].value, (None, True, False), f"L20 {place}")
                if isinstance(node, ast.FunctionDef):
                    self.assertFalse(node.decorator_list or node.args.vararg or node.args.kwarg, f"L4 {place}")
                if isinstance(node, ast.Constant):
                    self.assertIn(type(node.value), (int, str, bool, type(None)), f"L7 {place}")

    def test_names(self):
        for path, _, tree in self.each():
            for name, row in bound_names(tree):
                self.assertFalse(name in dir(builtins), f"L15 {path} {row} {name}")
                self.assertRegex(name, r"^([A-Za-z][A-Za-z0-9_]*|__init__)$", f"L12 {path} {row}")
            for node in ast.walk(tree):
                if isinstance(node, ast.Name) and node.id in dir(builtins):
                    self.assertIn(node.id, OWN_NAMES, f"L8 {path} {node.lineno}")
                if isinstance(node, ast.Attribute) and node.attr in PYTHONS_METHODS:
                    self.assertIn(node.attr, METHODS, f"L25 {path} {node.lineno}")


if __name__ == "__main__":
    unittest.main()
