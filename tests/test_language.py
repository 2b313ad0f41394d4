"""The package's own files keep to the part of Python that they may use.

What can be seen plainly in a file is looked at here, not every rule.
"""

import ast
import re
import unittest
from pathlib import Path

PACKAGE = Path(__file__).resolve().parent.parent / "safeforever"

NODES = set("""Module ImportFrom alias FunctionDef arguments arg ClassDef Assign AugAssign If While For Return Break
Continue Pass Raise Try ExceptHandler Expr Call Constant List Tuple Dict Set Name Attribute Subscript Slice Load Store
BinOp UnaryOp BoolOp Compare IfExp ListComp comprehension JoinedStr FormattedValue Lambda keyword Add Sub Mult FloorDiv
Mod Pow BitAnd BitOr BitXor LShift RShift Invert USub UAdd Not And Or Eq NotEq Lt LtE Gt GtE Is IsNot In
NotIn""".split())

OWN_NAMES = set("""len range enumerate zip min max sum abs sorted reversed int str bool list tuple dict set frozenset
isinstance ord repr any all divmod Exception ValueError TypeError KeyError IndexError LookupError ZeroDivisionError
ArithmeticError OverflowError RuntimeError NotImplementedError AttributeError StopIteration""".split())

METHODS = set("""append clear copy count endswith extend find get index insert isalnum isalpha isdigit islower isspace
isupper items join keys ljust lower lstrip partition pop remove replace reverse rfind rjust rpartition rsplit rstrip
setdefault split splitlines startswith strip update upper values zfill bit_length""".split())

WORDS = re.compile(r"\b(type|typing|typing_extensions|enum|Enum|IntEnum|StrEnum|Flag|IntFlag|Generic|Protocol|ABC|ABCMeta"
                   r"|namedtuple|NamedTuple|TypedDict|TYPE_CHECKING|abstractmethod)\b|dataclass|overload|contextmanager")

# What is walked at once: where it's called, its parent is a loop or one of these.
WALKED = set("range enumerate zip reversed items keys values".split())
WALKERS = set("list tuple dict sorted sum any all enumerate zip min max".split())

PYTHONS_NAMES = set(dir(__builtins__) if not isinstance(__builtins__, dict) else __builtins__)


class Language(unittest.TestCase):
    def setUp(self):
        self.texts = {path: path.read_text(encoding="utf-8") for path in sorted(PACKAGE.rglob("*.py"))}
        self.trees = {path: ast.parse(text) for path, text in self.texts.items()}

    def nodes(self, *kinds):
        return [(path, node) for path, tree in self.trees.items() for node in ast.walk(tree)
                if not kinds or isinstance(node, kinds)]

    def where(self, path, node):
        return f"{path.name}:{getattr(node, 'lineno', 0)}"

    def test_nothing_but_files_of_python_lies_there(self):
        others = [path for path in PACKAGE.rglob("*")
                  if path.suffix != ".py" and "__pycache__" not in path.parts]
        self.assertEqual(others, [])
        self.assertIn(PACKAGE / "__init__.py", self.texts)
        for path in self.texts:
            self.assertRegex(path.stem, r"^[a-z0-9_]+$")

    def test_signs_sizes_and_words(self):
        for path, text in self.texts.items():
            rows = text.split("\n")
            self.assertLessEqual(len(rows), 400, path)
            self.assertTrue(all(" " <= sign <= "~" or sign == "\n" for sign in text), path)
            self.assertLessEqual(max(len(row) for row in rows), 120, path)
            self.assertIsNone(WORDS.search(text), path)
        for path, node in self.nodes(ast.FunctionDef):
            self.assertLessEqual(node.end_lineno - node.lineno + 1, 40, self.where(path, node))

    def test_imports_are_the_packages_own(self):
        for path, node in self.nodes(ast.ImportFrom):
            self.assertEqual(node.level, 0, self.where(path, node))
            self.assertTrue(node.module.startswith("safeforever."), self.where(path, node))
            self.assertTrue(all(name.name != "*" for name in node.names), self.where(path, node))

    def test_kinds_of_statements_and_values(self):
        for path, node in self.nodes():
            self.assertIn(node.__class__.__name__, NODES, self.where(path, node))
        for path, node in self.nodes(ast.Constant):
            self.assertIsInstance(node.value, (int, str, type(None)), self.where(path, node))
        for path, node in self.nodes(ast.Assign):
            self.assertEqual(len(node.targets), 1, self.where(path, node))
        for path, node in self.nodes(ast.For, ast.While):
            self.assertEqual(node.orelse, [], self.where(path, node))
        for path, node in self.nodes(ast.FunctionDef, ast.ClassDef):
            self.assertEqual(node.decorator_list, [], self.where(path, node))

    def test_names(self):
        for path, tree in self.trees.items():
            bound = {node.id for node in ast.walk(tree)
                     if isinstance(node, ast.Name) and isinstance(node.ctx, ast.Store)}
            bound |= {node.arg for node in ast.walk(tree) if isinstance(node, ast.arg)}
            bound |= {node.name for node in ast.walk(tree) if isinstance(node, (ast.FunctionDef, ast.ClassDef))}
            bound |= {name.name for node in ast.walk(tree) if isinstance(node, ast.ImportFrom) for name in node.names}
            used = {node.id for node in ast.walk(tree) if isinstance(node, ast.Name)}
            self.assertEqual(used - bound - OWN_NAMES, set(), path)
            self.assertEqual((bound - {"__init__"}) & PYTHONS_NAMES, set(), path)
            self.assertEqual({name for name in bound if name.startswith("_")} - {"__init__"}, set(), path)

    def test_no_local_is_called_like_an_import_or_a_class(self):
        for path, tree in self.trees.items():
            outer = {name.name for node in ast.walk(tree) if isinstance(node, ast.ImportFrom) for name in node.names}
            outer |= {node.name for node in tree.body if isinstance(node, (ast.FunctionDef, ast.ClassDef))}
            for node in ast.walk(tree):
                if isinstance(node, ast.arg):
                    self.assertNotIn(node.arg, outer, self.where(path, node))
                if isinstance(node, ast.Name) and isinstance(node.ctx, ast.Store):
                    self.assertNotIn(node.id, outer, self.where(path, node))

    def test_no_two_files_draw_from_one_another(self):
        drawn = {path.stem: {node.module.split(".")[1] for node in ast.walk(tree) if isinstance(node, ast.ImportFrom)}
                 for path, tree in self.trees.items()}
        for start in drawn:
            seen, ahead = set(), set(drawn[start])
            while ahead:
                seen |= ahead
                ahead = set().union(*[drawn[name] for name in ahead]) - seen
            self.assertNotIn(start, seen)

    def test_what_is_walked_is_walked_at_once(self):
        for path, tree in self.trees.items():
            walked = set()
            for node in ast.walk(tree):
                if isinstance(node, (ast.For, ast.comprehension)):
                    walked.add(node.iter)
                if isinstance(node, ast.Call) and isinstance(node.func, ast.Name) and node.func.id in WALKERS:
                    walked.update(node.args[:1])
            for node in ast.walk(tree):
                if isinstance(node, ast.Call) and self.called(node) in WALKED:
                    self.assertIn(node, walked, self.where(path, node))

    def called(self, node):
        return getattr(node.func, "attr", getattr(node.func, "id", None))

    def test_methods(self):
        own = {node.name for path, node in self.nodes(ast.FunctionDef)}
        for path, node in self.nodes(ast.Call):
            if isinstance(node.func, ast.Attribute):
                self.assertIn(node.func.attr, METHODS | own, self.where(path, node))


if __name__ == "__main__":
    unittest.main()
