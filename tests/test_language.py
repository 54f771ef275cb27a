"""The package's own files keep to the small part of Python that they're written in.

Only what can be seen without much ado is looked at: size, signs, words, imports, statements, names.
"""

import ast
import builtins
import pathlib
import re
import unittest

PACKAGE = pathlib.Path(__file__).resolve().parent.parent / "relationsfound"
FILES = sorted(path for path in PACKAGE.iterdir() if path.name != "__pycache__")
TEXTS = {path.name: path.read_text(encoding="utf-8") for path in FILES}
TREES = {name: ast.parse(text) for name, text in TEXTS.items()}
NODES_OF = {name: list(ast.walk(tree)) for name, tree in TREES.items()}

ALLOWED = set(
    "len range enumerate zip min max sum abs sorted reversed int str bool list tuple dict set frozenset isinstance "
    "ord repr any all divmod Exception ValueError TypeError KeyError IndexError LookupError ZeroDivisionError "
    "ArithmeticError OverflowError RuntimeError NotImplementedError AttributeError StopIteration".split()
)
WORDS = (
    r"\b(type|typing|typing_extensions|enum|Enum|IntEnum|StrEnum|Flag|IntFlag|Generic|Protocol|ABC|ABCMeta|namedtuple"
    r"|NamedTuple|TypedDict|TYPE_CHECKING|abstractmethod)\b|dataclass|overload|contextmanager"
)
METHODS = set(
    "append clear copy count endswith extend find get index insert isalnum isalpha isdigit islower isspace isupper "
    "items join keys ljust lower lstrip partition pop remove replace reverse rfind rjust rpartition rsplit rstrip "
    "setdefault split splitlines startswith strip update upper values zfill bit_length".split()
)
OUTSIDE = (
    ast.With, ast.Match, ast.Delete, ast.Global, ast.Nonlocal, ast.Assert, ast.Yield, ast.YieldFrom, ast.Await,
    ast.AsyncFunctionDef, ast.AsyncFor, ast.AsyncWith, ast.SetComp, ast.DictComp, ast.GeneratorExp, ast.NamedExpr,
    ast.Starred, ast.Div, ast.Is, ast.IsNot, ast.Import, ast.AnnAssign,
)


def beside_none(node):
    return isinstance(node, ast.Compare) and all(
        isinstance(other, ast.Constant) and other.value in (None, True, False) for other in node.comparators
    )


class Language(unittest.TestCase):
    def test_files(self):
        self.assertIn("__init__.py", TEXTS)
        for name in TEXTS:
            self.assertRegex(name, r"^[a-z_]+\.py$")

    def test_size_and_signs(self):
        for name, text in TEXTS.items():
            rows = text.split("\n")
            self.assertLessEqual(len(rows), 400, name)
            self.assertLessEqual(max(len(row) for row in rows), 120, name)
            self.assertRegex(text, r"\A[ -~\n]*\Z", name)

    def test_functions(self):
        for name, nodes in NODES_OF.items():
            for node in nodes:
                if isinstance(node, ast.FunctionDef):
                    self.assertLessEqual(node.end_lineno - node.lineno + 1, 40, (name, node.name))
                    self.assertEqual([], node.decorator_list, (name, node.name))

    def test_words(self):
        for name, text in TEXTS.items():
            self.assertIsNone(re.search(WORDS, text), name)

    def test_imports(self):
        for name, nodes in NODES_OF.items():
            for node in nodes:
                if isinstance(node, ast.ImportFrom):
                    self.assertEqual(0, node.level, name)
                    self.assertTrue(node.module.startswith("relationsfound."), name)
                    self.assertIn(node, TREES[name].body, name)

    def test_statements(self):
        for name, nodes in NODES_OF.items():
            kept_is = [op for node in nodes if beside_none(node) for op in node.ops]
            for node in nodes:
                if isinstance(node, OUTSIDE) and node not in kept_is:
                    self.fail((name, ast.dump(node)))
                if isinstance(node, (ast.For, ast.While)):
                    self.assertEqual([], node.orelse, name)
                if isinstance(node, ast.ListComp):
                    self.assertEqual(1, len(node.generators), name)
                    self.assertLessEqual(len(node.generators[0].ifs), 1, name)
                if isinstance(node, ast.FormattedValue):
                    self.assertIsInstance(node.value, ast.Name, name)
                if isinstance(node, ast.Constant):
                    self.assertNotIsInstance(node.value, (float, bytes), name)

    def test_names(self):
        own = set(dir(builtins))
        for name, nodes in NODES_OF.items():
            for node in nodes:
                if isinstance(node, ast.Name):
                    self.assertFalse(node.id.startswith("_"), (name, node.id))
                    self.assertTrue(node.id not in own or node.id in ALLOWED, (name, node.id))
                    self.assertFalse(isinstance(node.ctx, ast.Store) and node.id in own, (name, node.id))
                if isinstance(node, ast.arg):
                    self.assertNotIn(node.arg, own, name)
                if isinstance(node, (ast.FunctionDef, ast.ClassDef)):
                    self.assertNotIn(node.name, own, name)

    def test_methods(self):
        every = [node for nodes in NODES_OF.values() for node in nodes]
        own = {node.name for node in every if isinstance(node, ast.FunctionDef)}
        for node in every:
            if isinstance(node, ast.Call) and isinstance(node.func, ast.Attribute):
                self.assertIn(node.func.attr, METHODS | own)

    def test_no_name_is_a_method_here_and_a_value_there(self):
        every = [node for nodes in NODES_OF.values() for node in nodes]
        classes = [node for node in every if isinstance(node, ast.ClassDef)]
        methods = {part.name for node in classes for part in node.body if isinstance(part, ast.FunctionDef)}
        kept = {node.attr for node in every if isinstance(node, ast.Attribute) and isinstance(node.ctx, ast.Store)}
        self.assertEqual(set(), methods & kept)
