"""The rules of the language that a look at the written program can tell, by their numbers."""

import ast
import builtins
import pathlib
import re
import unittest

PACKAGE = pathlib.Path(__file__).resolve().parent.parent / "eightcalendars"

FORBIDDEN = (
    ast.With, ast.Match, ast.Delete, ast.Global, ast.Nonlocal, ast.Assert, ast.Yield, ast.YieldFrom,
    ast.AsyncFunctionDef, ast.AsyncFor, ast.AsyncWith, ast.Await, ast.Div, ast.MatMult, ast.SetComp,
    ast.DictComp, ast.GeneratorExp, ast.NamedExpr, ast.Starred, ast.Import,
)
OWN_NAMES = (
    "len range enumerate zip min max sum abs sorted reversed int str bool list tuple dict set frozenset "
    "isinstance ord repr any all divmod Exception ValueError TypeError KeyError IndexError LookupError "
    "ZeroDivisionError ArithmeticError OverflowError RuntimeError NotImplementedError AttributeError StopIteration"
).split()
FORBIDDEN_WORDS = (
    "type typing typing_extensions enum Enum IntEnum StrEnum Flag IntFlag Generic Protocol ABC ABCMeta namedtuple "
    "NamedTuple TypedDict TYPE_CHECKING abstractmethod"
).split()

OWN_METHODS = (
    "append clear copy count endswith extend find get index insert isalnum isalpha isdigit islower isspace isupper "
    "items join keys ljust lower lstrip partition pop remove replace reverse rfind rjust rpartition rsplit rstrip "
    "setdefault split splitlines startswith strip update upper values zfill bit_length"
).split()


def bound_names(tree):
    """Every name that the program gives: of functions, classes, parameters and values."""
    names = [node.name for node in ast.walk(tree) if isinstance(node, (ast.FunctionDef, ast.ClassDef))]
    names += [node.arg for node in ast.walk(tree) if isinstance(node, ast.arg)]
    names += [node.id for node in ast.walk(tree) if isinstance(node, ast.Name) and isinstance(node.ctx, ast.Store)]
    return names


class Language(unittest.TestCase):
    def setUp(self):
        self.files = [path for path in sorted(PACKAGE.rglob("*")) if "__pycache__" not in path.parts]
        self.trees = [(path.name, ast.parse(path.read_text())) for path in self.files]

    def nodes(self):
        return [(name, node) for name, tree in self.trees for node in ast.walk(tree)]

    def test_files_l1_l14(self):
        self.assertIn(PACKAGE / "__init__.py", self.files)
        for path in self.files:
            self.assertRegex(path.name, r"^[a-z_][a-z0-9_]*\.py$")
            self.assertRegex(path.read_text(), r"^[\n -~]*$")

    def test_sizes_l10(self):
        for path in self.files:
            lines = path.read_text().splitlines()
            self.assertLessEqual(len(lines), 400, path.name)
            self.assertLessEqual(max(len(line) for line in lines), 120, path.name)
        for name, node in self.nodes():
            if isinstance(node, ast.FunctionDef):
                self.assertLessEqual(node.end_lineno - node.lineno + 1, 40, (name, node.name))

    def test_imports_l2_l16(self):
        for name, node in self.nodes():
            if isinstance(node, ast.ImportFrom):
                self.assertEqual(node.level, 0, name)
                self.assertRegex(node.module, r"^eightcalendars\.", name)

    def test_functions_l4_l21(self):
        for name, node in self.nodes():
            if isinstance(node, ast.FunctionDef):
                self.assertEqual(node.decorator_list, [], (name, node.name))
                self.assertIsNone(node.args.vararg, (name, node.name))
                self.assertIsNone(node.args.kwarg, (name, node.name))
                self.assertEqual(node.args.kwonlyargs, [], (name, node.name))

    def test_statements_and_values_l6_l7(self):
        for name, node in self.nodes():
            where = (name, getattr(node, "lineno", None))
            self.assertNotIsInstance(node, FORBIDDEN, where)
            if isinstance(node, (ast.For, ast.While)):
                self.assertEqual(node.orelse, [], where)
            if isinstance(node, ast.Assign):
                self.assertEqual(len(node.targets), 1, where)
                self.assertNotIsInstance(node.targets[0], (ast.Tuple, ast.List), where)
            if isinstance(node, ast.Constant):
                self.assertNotIsInstance(node.value, (float, bytes, complex), where)

    def test_names_l8_l12_l15(self):
        for name, tree in self.trees:
            for bound in bound_names(tree):
                self.assertRegex(bound, r"^([A-Za-z]\w*|__\w+__)$", name)
                self.assertFalse(hasattr(builtins, bound), (name, bound))
            for node in ast.walk(tree):
                if isinstance(node, ast.Name) and hasattr(builtins, node.id):
                    self.assertIn(node.id, OWN_NAMES, (name, node.lineno))

    def test_each_name_once_l15(self):
        for name, tree in self.trees:
            given = [target.id for node in tree.body if isinstance(node, ast.Assign) for target in node.targets]
            given += [node.name for node in tree.body if isinstance(node, (ast.FunctionDef, ast.ClassDef))]
            self.assertEqual(len(given), len(set(given)), name)

    def test_words_l17(self):
        for path in self.files:
            for word in re.findall(r"\w+", path.read_text()):
                self.assertNotIn(word, FORBIDDEN_WORDS, path.name)
                self.assertNotRegex(word, "dataclass|overload|contextmanager", path.name)

    def test_is_l20(self):
        for name, node in self.nodes():
            if isinstance(node, ast.Compare):
                for op, right in zip(node.ops, node.comparators):
                    if isinstance(op, (ast.Is, ast.IsNot)):
                        self.assertIsInstance(right, ast.Constant, (name, node.lineno))
                        self.assertIn(right.value, (None, True, False), (name, node.lineno))

    def test_methods_l25(self):
        # The package has no class so far, so every method is one of Python's own.
        for name, node in self.nodes():
            self.assertNotIsInstance(node, ast.ClassDef, name)
            if isinstance(node, ast.Attribute):
                self.assertIn(node.attr, OWN_METHODS, (name, node.lineno))

    def test_texts_l27(self):
        for name, node in self.nodes():
            if isinstance(node, ast.Constant) and isinstance(node.value, str):
                self.assertNotIn("%", node.value, (name, node.lineno))


if __name__ == "__main__":
    unittest.main()
