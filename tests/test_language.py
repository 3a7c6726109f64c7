"""The package keeps to the small part of Python that it is written in (the rules that a walk over its tree can see)."""

import ast
import os
import re
import unittest

TOP = os.path.dirname(os.path.dirname(os.path.abspath(__file__)))
PACKAGE = os.path.join(TOP, "loopnest")

NODES = """Module Expr Assign AugAssign If While For Return Break Continue Pass Raise Try ExceptHandler
FunctionDef ClassDef ImportFrom alias arguments arg Lambda
Constant Name Attribute Subscript Slice Call keyword List Tuple Dict ListComp comprehension IfExp JoinedStr
FormattedValue BinOp UnaryOp BoolOp Compare Load Store
Add Sub Mult FloorDiv Mod Pow BitAnd BitOr BitXor LShift RShift Invert Not USub UAdd And Or
Eq NotEq Lt LtE Gt GtE In NotIn Is IsNot""".split()

BUILT_IN = """len range enumerate zip min max sum abs sorted reversed int str bool list tuple dict set frozenset
isinstance ord repr any all divmod Exception ValueError TypeError KeyError IndexError LookupError ZeroDivisionError
ArithmeticError OverflowError RuntimeError NotImplementedError AttributeError StopIteration""".split()

METHODS = """append clear copy count endswith extend find get index insert isalnum isalpha isdigit islower isspace
isupper items join keys ljust lower lstrip partition pop remove replace reverse rfind rjust rpartition rsplit rstrip
setdefault split splitlines startswith strip update upper values zfill bit_length""".split()

WORDS = """type typing typing_extensions enum Enum IntEnum StrEnum Flag IntFlag Generic Protocol ABC ABCMeta namedtuple
NamedTuple TypedDict TYPE_CHECKING abstractmethod""".split()


def sources():
    found = {}
    for folder, folders, files in os.walk(PACKAGE):
        folders[:] = [name for name in folders if name != "__pycache__"]
        for name in files:
            path = os.path.join(folder, name)
            with open(path, encoding="utf-8", newline="") as source:
                found[os.path.relpath(path, TOP)] = source.read()
    return found


def bound_names(tree):
    names = [node.id for node in ast.walk(tree) if isinstance(node, ast.Name) and isinstance(node.ctx, ast.Store)]
    names += [node.arg for node in ast.walk(tree) if isinstance(node, ast.arg)]
    names += [node.name for node in ast.walk(tree) if isinstance(node, (ast.FunctionDef, ast.ClassDef))]
    return names


class Language(unittest.TestCase):
    def setUp(self):
        self.sources = sources()
        self.trees = {path: ast.parse(text) for path, text in self.sources.items()}

    def nodes(self, *kinds):
        for path, tree in self.trees.items():
            for node in ast.walk(tree):
                if isinstance(node, kinds):
                    yield path, node

    def test_files(self):
        self.assertIn(os.path.join("loopnest", "__init__.py"), self.sources)
        self.assertIn(os.path.join("loopnest", "desk.py"), self.sources)
        for path, text in self.sources.items():
            self.assertRegex(os.path.basename(path), r"^[a-z0-9_]+\.py$")
            self.assertRegex(text, r"^[ -~\n]*$", path)
            lines = text.split("\n")
            self.assertLessEqual(len(lines), 401, path)
            self.assertLessEqual(max(len(line) for line in lines), 120, path)

    def test_words(self):
        for path, text in self.sources.items():
            for word in WORDS:
                self.assertIsNone(re.search(rf"\b{word}\b", text), (path, word))
            for part in ("dataclass", "overload", "contextmanager"):
                self.assertNotIn(part, text)

    def test_forms(self):
        for path, node in self.nodes(ast.AST):
            self.assertIn(type(node).__name__, NODES, (path, getattr(node, "lineno", None)))
        for path, node in self.nodes(ast.Constant):
            self.assertIn(type(node.value), (int, str, bool, type(None)), path)
        for path, node in self.nodes(ast.Assign):
            self.assertEqual(len(node.targets), 1, path)
        for path, node in self.nodes(ast.For, ast.While):
            self.assertEqual(node.orelse, [], path)
        for path, node in self.nodes(ast.ListComp):
            self.assertEqual(len(node.generators), 1, path)
        for path, node in self.nodes(ast.arguments):
            self.assertIsNone(node.vararg or node.kwarg, path)
            self.assertEqual(node.kwonlyargs, [], path)

    def test_tops(self):
        allowed = (ast.Expr, ast.ImportFrom, ast.FunctionDef, ast.ClassDef, ast.Assign)
        for path, tree in self.trees.items():
            self.assertIsNotNone(ast.get_docstring(tree), path)
            for node in tree.body:
                self.assertIsInstance(node, allowed, path)
                if isinstance(node, ast.Assign):
                    ast.literal_eval(node.value)
            tops = [node.name for node in tree.body if isinstance(node, (ast.FunctionDef, ast.ClassDef))]
            tops += [node.targets[0].id for node in tree.body if isinstance(node, ast.Assign)]
            tops += [name.name for node in tree.body if isinstance(node, ast.ImportFrom) for name in node.names]
            self.assertEqual(len(tops), len(set(tops)), path)

    def test_imports(self):
        drawn = {path: [] for path in self.trees}
        for path, node in self.nodes(ast.ImportFrom):
            self.assertEqual(node.level, 0, path)
            source = os.path.join(*node.module.split(".")) + ".py"
            self.assertIn(source, self.trees, path)
            drawn[path].append(source)
            here = bound_names(self.trees[source])
            for name in node.names:
                self.assertIn(name.name, here, path)
                self.assertIsNone(name.asname, path)
        while drawn:
            free = [path for path in drawn if not any(source in drawn for source in drawn[path])]
            self.assertTrue(free, "files that draw from one another")
            for path in free:
                drawn.pop(path)

    def test_functions(self):
        for path, node in self.nodes(ast.FunctionDef):
            self.assertLessEqual(node.end_lineno - node.lineno + 1, 40, (path, node.name))
            self.assertEqual(node.decorator_list, [], path)
        for path, node in self.nodes(ast.ClassDef):
            self.assertEqual((node.decorator_list, node.keywords), ([], []), path)
            self.assertLessEqual(len(node.bases), 1, path)

    def test_names(self):
        own = dir(__builtins__) if not isinstance(__builtins__, dict) else list(__builtins__)
        for path, tree in self.trees.items():
            imported = [name.name for node in tree.body if isinstance(node, ast.ImportFrom) for name in node.names]
            bound = bound_names(tree)
            for name in bound:
                if name not in ("__init__", "__eq__", "__repr__", "__str__", "__len__"):
                    self.assertRegex(name, r"^[A-Za-z][A-Za-z0-9_]*$", path)
                    self.assertNotIn(name, own, path)
            for node in ast.walk(tree):
                if isinstance(node, ast.Name):
                    self.assertIn(node.id, bound + imported + BUILT_IN, (path, node.lineno))
            classes = [node.name for node in tree.body if isinstance(node, ast.ClassDef)]
            self.assertEqual(len(classes + imported), len(set(classes + imported)), path)
            for name in classes + imported:
                self.assertEqual(bound.count(name), 1 if name in classes else 0, (path, name))

    def test_methods(self):
        classes = [node for path, node in self.nodes(ast.ClassDef)]
        methods = [part.name for node in classes for part in node.body if isinstance(part, ast.FunctionDef)]
        stored = [node.attr for path, node in self.nodes(ast.Attribute) if isinstance(node.ctx, ast.Store)]
        self.assertEqual(set(methods) & set(stored), set())
        for path, node in self.nodes(ast.Attribute):
            self.assertIn(node.attr, METHODS + methods + stored, (path, node.lineno))
        # What Python's own values have as a method is no name of the program's own.
        taken = [name for kind in (str, int, list, dict, set, bytes, tuple) for name in dir(kind)]
        for name in methods + stored:
            if name != "__init__":
                self.assertNotIn(name, taken)

    def test_no_walked_set_and_no_kept_walk(self):
        for path, node in self.nodes(ast.Assign, ast.Return):
            if isinstance(node.value, ast.Call) and isinstance(node.value.func, ast.Name):
                walked = ("set", "zip", "enumerate", "reversed", "range")
                self.assertNotIn(node.value.func.id, walked, (path, node.lineno))
        for path, node in self.nodes(ast.Compare):
            for operation, right in zip(node.ops, node.comparators):
                if isinstance(operation, (ast.Is, ast.IsNot)):
                    self.assertIn(getattr(right, "value", "other"), (None, True, False), (path, node.lineno))


if __name__ == "__main__":
    unittest.main()
