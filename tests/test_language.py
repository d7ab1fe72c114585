"""The package keeps to the small part of Python that it is written in.

These are the rules of LANGUAGE.md that a short walk over the code can see.
"""

import ast
import builtins
import pathlib
import re
import unittest

PACKAGE = pathlib.Path(__file__).resolve().parent.parent / "spacebook"
FILES = sorted(PACKAGE.glob("**/*.py"))

NAMES = set("""
    len range enumerate zip min max sum abs sorted reversed int str bool list tuple dict set frozenset isinstance
    ord repr any all divmod Exception ValueError TypeError KeyError IndexError LookupError ZeroDivisionError
    ArithmeticError OverflowError RuntimeError NotImplementedError AttributeError StopIteration
""".split())

METHODS = set("""
    append clear copy count endswith extend find get index insert isalnum isalpha isdigit islower isspace isupper
    items join keys ljust lower lstrip partition pop remove replace reverse rfind rjust rpartition rsplit rstrip
    setdefault split splitlines startswith strip update upper values zfill bit_length
""".split())

NODES = set("""
    Module FunctionDef ClassDef arguments arg Lambda keyword alias ImportFrom
    Assign AugAssign AnnAssign If While For Return Break Continue Pass Raise Try ExceptHandler Expr
    Constant Name Attribute Subscript Slice List Tuple Dict Set ListComp comprehension JoinedStr FormattedValue
    BinOp UnaryOp BoolOp Compare IfExp Call Load Store
    Add Sub Mult FloorDiv Mod Pow BitAnd BitOr BitXor LShift RShift Invert USub UAdd And Or Not
    Eq NotEq Lt LtE Gt GtE Is IsNot In NotIn
""".split())

WORDS = re.compile(r"""
    \b(type|typing|typing_extensions|enum|Enum|IntEnum|StrEnum|Flag|IntFlag|Generic|Protocol|ABC|ABCMeta|namedtuple
    |NamedTuple|TypedDict|TYPE_CHECKING|abstractmethod)\b|dataclass|overload|contextmanager
""", re.VERBOSE)


def walk(path):
    return list(ast.walk(ast.parse(path.read_text(encoding="utf-8"))))


def nodes_of(*wanted):
    """Each node of these sorts in the package, with its file's name."""
    return [(path.name, node) for path in FILES for node in walk(path) if isinstance(node, wanted)]


def bound_names():
    """Each name that the package gives to something of its own."""
    for name, node in nodes_of(ast.FunctionDef, ast.ClassDef, ast.arg, ast.Name):
        if isinstance(node, ast.arg):
            yield name, node.arg
        elif isinstance(node, ast.Name):
            if isinstance(node.ctx, ast.Store):
                yield name, node.id
        else:
            yield name, node.name


class Language(unittest.TestCase):
    def test_files(self):
        self.assertIn(PACKAGE / "cells.py", FILES)
        for path in PACKAGE.rglob("*"):
            if "__pycache__" not in path.parts:
                self.assertRegex(path.name, r"\A([a-z][a-z0-9_]*|__init__|__main__)\.py\Z")
                self.assertFalse(path.name.startswith("test"))

    def test_sizes_and_signs(self):
        for path in FILES:
            text = path.read_bytes().decode("ascii")
            rows = text.split("\n")
            self.assertLessEqual(len(rows), 399, path.name)
            self.assertTrue(all(len(row) <= 120 for row in rows), path.name)
            self.assertRegex(text, r"\A[ -~\n]*\Z")
            self.assertIsNone(WORDS.search(text), path.name)
        for name, node in nodes_of(ast.FunctionDef):
            self.assertLessEqual(node.end_lineno - node.lineno + 1, 40, (name, node.name))

    def test_statements_and_expressions(self):
        for name, node in nodes_of(ast.AST):
            self.assertIn(type(node).__name__, NODES, (name, getattr(node, "lineno", 0)))
        for name, node in nodes_of(ast.Constant):
            self.assertIn(type(node.value), (int, str, bool, type(None)), (name, node.lineno))
        for name, node in nodes_of(ast.Assign):
            self.assertEqual(len(node.targets), 1, (name, node.lineno))
        for name, node in nodes_of(ast.For, ast.While):
            self.assertEqual(node.orelse, [], (name, node.lineno))

    def test_functions(self):
        for name, node in nodes_of(ast.FunctionDef):
            self.assertEqual(node.decorator_list, [], (name, node.name))
        for name, node in nodes_of(ast.arguments):
            self.assertEqual([node.vararg, node.kwarg, node.kwonlyargs, node.posonlyargs], [None, None, [], []], name)

    def test_names(self):
        own = set(dir(builtins))
        for name, bound in bound_names():
            self.assertRegex(bound, r"\A([A-Za-z][A-Za-z0-9_]*|__[a-z]+__)\Z", name)
            self.assertNotIn(bound, own, name)
        for name, node in nodes_of(ast.Name):
            if node.id in own:
                self.assertIn(node.id, NAMES, (name, node.lineno))
        for name, node in nodes_of(ast.Attribute):
            self.assertFalse(node.attr.startswith("_"), (name, node.lineno))

    def test_methods(self):
        own = {node.name for _, node in nodes_of(ast.FunctionDef)}
        for name, node in nodes_of(ast.Call):
            if isinstance(node.func, ast.Attribute):
                self.assertIn(node.func.attr, METHODS | own, (name, node.lineno))

    def test_imports(self):
        for name, node in nodes_of(ast.ImportFrom):
            self.assertEqual(node.level, 0, name)
            self.assertRegex(node.module, r"\Aspacebook\.[a-z_]+\Z", name)
            for alias in node.names:
                self.assertNotEqual(alias.name, "*", name)
                # Drawn from the very file that defines it.
                source = (PACKAGE / (node.module.split(".")[1] + ".py")).read_text(encoding="utf-8")
                self.assertRegex(source, rf"(?m)^(def|class) {alias.name}\b|^{alias.name} = ", name)

    def test_no_two_files_draw_from_one_another(self):
        drawn = {path.stem: set() for path in FILES}
        for name, node in nodes_of(ast.ImportFrom):
            drawn[name[:-3]].add(node.module.split(".")[1])
        for stem in drawn:
            seen, waiting = set(), list(drawn[stem])
            while waiting:
                other = waiting.pop()
                if other not in seen:
                    seen.add(other)
                    waiting += drawn[other]
            self.assertNotIn(stem, seen)


if __name__ == "__main__":
    unittest.main()
