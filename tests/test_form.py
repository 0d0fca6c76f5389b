"""The form of the package's files: the rules of its part of Python that are quickly seen."""

import ast
import re
import unittest
from pathlib import Path

PACKAGE = Path(__file__).resolve().parent.parent / "homeround"
FILES = sorted(PACKAGE.glob("**/*.py"))
BANNED_WORDS = re.compile(
    r"\b(type|typing|typing_extensions|enum|Enum|IntEnum|StrEnum|Flag|IntFlag|Generic|Protocol|ABC|ABCMeta"
    r"|namedtuple|NamedTuple|TypedDict|TYPE_CHECKING|abstractmethod)\b|dataclass|overload|contextmanager"
)
BANNED_NODES = (
    ast.With, ast.Global, ast.Nonlocal, ast.Yield, ast.YieldFrom, ast.Await, ast.AsyncFunctionDef, ast.AsyncFor,
    ast.AsyncWith, ast.Match, ast.GeneratorExp, ast.NamedExpr, ast.Div, ast.Import, ast.MatMult,
)
OWN_NAMES = (
    "len range enumerate zip min max sum abs sorted reversed int str bool bytes list tuple dict set frozenset "
    "isinstance ord repr any all divmod Exception ValueError TypeError KeyError IndexError LookupError "
    "ZeroDivisionError ArithmeticError OverflowError RuntimeError NotImplementedError AttributeError StopIteration"
).split()


def called_names(tree):
    return {node.func.id for node in ast.walk(tree) if isinstance(node, ast.Call) and isinstance(node.func, ast.Name)}


def known_names(tree):
    """All names that a file gives, by imports, defs, classes, parameters and assignments."""
    names = set(OWN_NAMES)
    for node in ast.walk(tree):
        if isinstance(node, (ast.FunctionDef, ast.ClassDef)):
            names.add(node.name)
        elif isinstance(node, ast.ImportFrom):
            names.update(part.asname or part.name for part in node.names)
        elif isinstance(node, ast.arg):
            names.add(node.arg)
        elif isinstance(node, ast.Name) and isinstance(node.ctx, ast.Store):
            names.add(node.id)
    return names


class Form(unittest.TestCase):
    def each_tree(self):
        for path in FILES:
            yield ast.parse(path.read_text("ascii"))

    def test_the_folder_holds_python_files_alone(self):
        self.assertIn(PACKAGE / "__init__.py", FILES)
        others = [path for path in PACKAGE.iterdir() if path.name != "__pycache__" and path not in FILES]
        self.assertEqual(others, [])

    def test_sizes_signs_and_words(self):
        for path in FILES:
            text = path.read_text("ascii")
            with self.subTest(path.name):
                self.assertLessEqual(len(text.split("\n")), 400)
                self.assertLessEqual(max(len(row) for row in text.split("\n")), 120)
                self.assertIsNone(re.search(r"[^\n -~]", text))
                self.assertIsNone(BANNED_WORDS.search(text))

    def test_defs_are_short_and_plain(self):
        for tree in self.each_tree():
            for node in ast.walk(tree):
                if isinstance(node, ast.FunctionDef):
                    self.assertLessEqual(node.end_lineno - node.lineno + 1, 40, node.name)
                    self.assertEqual(node.decorator_list, [])
                    self.assertEqual((node.args.vararg, node.args.kwarg, node.args.posonlyargs), (None, None, []))

    def test_statements_and_values(self):
        for tree in self.each_tree():
            for node in ast.walk(tree):
                self.assertNotIsInstance(node, BANNED_NODES)
                if isinstance(node, ast.Constant):
                    self.assertNotIsInstance(node.value, (float, complex))
                if isinstance(node, ast.Name):
                    self.assertFalse(node.id.startswith("_"), node.id)
                if isinstance(node, ast.ImportFrom):
                    self.assertTrue(node.module.startswith("homeround."), node.module)

    def test_calls_are_of_known_names(self):
        for tree in self.each_tree():
            self.assertLessEqual(called_names(tree), known_names(tree))


if __name__ == "__main__":
    unittest.main()
