"""The form of the package's files: the rules of its part of Python that are quickly seen."""

import ast
import builtins
import re
import unittest
from pathlib import Path

PACKAGE = Path(__file__).resolve().parent.parent / "homeround"
FILES = sorted(PACKAGE.glob("**/*.py"))
BANNED_WORDS = re.compile(
    r"\b(type|typing|typing_extensions|enum|Enum|IntEnum|StrEnum|Flag|IntFlag|Generic|Protocol|ABC|ABCMeta"
    r"|namedtuple|NamedTuple|TypedDict|TYPE_CHECKING|abstractmethod)\b|dataclass|overload|contextmanager"
)
BANNED_NODES = (
    ast.With, ast.Global, ast.Nonlocal, ast.Yield, ast.YieldFrom, ast.Await, ast.AsyncFunctionDef, ast.AsyncFor,
    ast.AsyncWith, ast.Match, ast.GeneratorExp, ast.NamedExpr, ast.Div, ast.Import, ast.MatMult,
)
OWN_NAMES = (
    "len range enumerate zip min max sum abs sorted reversed int str bool bytes list tuple dict set frozenset "
    "isinstance ord repr any all divmod Exception ValueError TypeError KeyError IndexError LookupError "
    "ZeroDivisionError ArithmeticError OverflowError RuntimeError NotImplementedError AttributeError StopIteration"
).split()

# The methods of Python's own values that the package may call, and those of its own.
METHODS = (
    "append clear copy count endswith extend find get index insert isalnum isalpha isdigit islower isspace isupper "
    "items join keys ljust lower lstrip partition pop remove replace reverse rfind rjust rpartition rsplit rstrip "
    "setdefault split splitlines startswith strip update upper values zfill bit_length isascii isdecimal"
).split()
WALKED = ("zip", "enumerate", "reversed", "range")
WALKERS = ("list", "tuple", "dict", "sorted", "sum", "any", "all", "enumerate", "zip", "min", "max")


def called_names(tree):
    return {node.func.id for node in ast.walk(tree) if isinstance(node, ast.Call) and isinstance(node.func, ast.Name)}


def known_names(tree):
    """All names that a file gives, by imports, defs, classes, parameters and assignments."""
    names = set(OWN_NAMES)
    for node in ast.walk(tree):
        if isinstance(node, (ast.FunctionDef, ast.ClassDef)):
            names.add(node.name)
        elif isinstance(node, ast.ImportFrom):
            names.update(part.asname or part.name for part in node.names)
        elif isinstance(node, ast.arg):
            names.add(node.arg)
        elif isinstance(node, ast.Name) and isinstance(node.ctx, ast.Store):
            names.add(node.id)
    return names


def imported_names(tree):
    return {part.name for node in ast.walk(tree) if isinstance(node, ast.ImportFrom) for part in node.names}


def names_at_top(tree):
    defs = [node.name for node in tree.body if isinstance(node, (ast.FunctionDef, ast.ClassDef))]
    return defs + [name.id for node in tree.body if isinstance(node, ast.Assign) for name in node.targets]


def local_names(tree):
    """The parameters of defs and lambdas, and what is given within them."""
    defs = [node for node in ast.walk(tree) if isinstance(node, (ast.FunctionDef, ast.Lambda))]
    inner = [node for part in defs for node in ast.walk(part)]
    names = {node.id for node in inner if isinstance(node, ast.Name) and isinstance(node.ctx, ast.Store)}
    return names | {node.arg for node in inner if isinstance(node, ast.arg)}


def is_call_of(node, names):
    return isinstance(node, ast.Call) and isinstance(node.func, ast.Name) and node.func.id in names


def own_methods():
    trees = [ast.parse(path.read_text("ascii")) for path in FILES]
    classes = [node for tree in trees for node in ast.walk(tree) if isinstance(node, ast.ClassDef)]
    return {part.name for node in classes for part in node.body if isinstance(part, ast.FunctionDef)}


class Form(unittest.TestCase):
    def each_tree(self):
        for path in FILES:
            yield ast.parse(path.read_text("ascii"))

    def test_the_folder_holds_python_files_alone(self):
        self.assertIn(PACKAGE / "__init__.py", FILES)
        others = [path for path in PACKAGE.iterdir() if path.name != "__pycache__" and path not in FILES]
        self.assertEqual(others, [])

    def test_sizes_signs_and_words(self):
        for path in FILES:
            text = path.read_text("ascii")
            with self.subTest(path.name):
                self.assertLessEqual(len(text.split("\n")), 400)
                self.assertLessEqual(max(len(row) for row in text.split("\n")), 120)
                self.assertIsNone(re.search(r"[^\n -~]", text))
                self.assertIsNone(BANNED_WORDS.search(text))

    def test_defs_are_short_and_plain(self):
        for tree in self.each_tree():
            for node in ast.walk(tree):
                if isinstance(node, ast.FunctionDef):
                    self.assertLessEqual(node.end_lineno - node.lineno + 1, 40, node.name)
                    self.assertEqual(node.decorator_list, [])
                    self.assertEqual((node.args.vararg, node.args.kwarg, node.args.posonlyargs), (None, None, []))

    def test_statements_and_values(self):
        for tree in self.each_tree():
            for node in ast.walk(tree):
                self.assertNotIsInstance(node, BANNED_NODES)
                if isinstance(node, ast.Constant):
                    self.assertNotIsInstance(node.value, (float, complex))
                if isinstance(node, ast.Name):
                    self.assertFalse(node.id.startswith("_"), node.id)
                if isinstance(node, ast.ImportFrom):
                    self.assertTrue(node.module.startswith("homeround."), node.module)

    def test_calls_are_of_known_names(self):
        for tree in self.each_tree():
            self.assertLessEqual(called_names(tree), known_names(tree))

    def test_methods_are_known_ones(self):
        known = set(METHODS) | own_methods()
        for tree in self.each_tree():
            for node in ast.walk(tree):
                if isinstance(node, ast.Call) and isinstance(node.func, ast.Attribute):
                    self.assertIn(node.func.attr, known)

    def test_names_are_bound_once_and_used(self):
        for tree in self.each_tree():
            drawn, top = imported_names(tree), names_at_top(tree)
            self.assertEqual(len(top), len(set(top)))
            self.assertEqual(drawn & set(top), set())
            self.assertLessEqual(drawn, {node.id for node in ast.walk(tree) if isinstance(node, ast.Name)})
            classes = {node.name for node in tree.body if isinstance(node, ast.ClassDef)}
            self.assertEqual(local_names(tree) & (drawn | classes | set(dir(builtins))), set())

    def test_imports_are_from_the_file_that_defines_the_name(self):
        tops = {path.stem: names_at_top(ast.parse(path.read_text("ascii"))) for path in FILES}
        for tree in self.each_tree():
            for node in ast.walk(tree):
                if isinstance(node, ast.ImportFrom):
                    self.assertLessEqual({part.name for part in node.names}, set(tops[node.module.split(".")[1]]))
                    self.assertEqual([part.asname for part in node.names], [None] * len(node.names))

    def test_walked_at_once(self):
        for tree in self.each_tree():
            on_the_spot = set()
            for node in ast.walk(tree):
                if isinstance(node, (ast.For, ast.comprehension)):
                    on_the_spot.add(node.iter)
                elif is_call_of(node, WALKERS):
                    on_the_spot.update(node.args[:1] if node.func.id != "zip" else node.args)
            for node in ast.walk(tree):
                if is_call_of(node, WALKED):
                    self.assertIn(node, on_the_spot, ast.unparse(node))

    def test_is_stands_beside_none_true_and_false(self):
        for tree in self.each_tree():
            for node in ast.walk(tree):
                if isinstance(node, ast.Compare) and isinstance(node.ops[0], (ast.Is, ast.IsNot)):
                    self.assertIn(ast.unparse(node.comparators[0]), ("None", "True", "False"))


if __name__ == "__main__":
    unittest.main()
