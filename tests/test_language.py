"""The package keeps to the small part of Python that it is written in.

These are the rules of LANGUAGE.md that a short walk over the code can see.
"""

import ast
import builtins
import pathlib
import re
import unittest

PACKAGE = pathlib.Path(__file__).resolve().parent.parent / "spacebook"
FILES = sorted(PACKAGE.glob("**/*.py"))

NAMES = set("""
    len range enumerate zip min max sum abs sorted reversed int str bool list tuple dict set frozenset isinstance
    ord repr any all divmod Exception ValueError TypeError KeyError IndexError LookupError ZeroDivisionError
    ArithmeticError OverflowError RuntimeError NotImplementedError AttributeError StopIteration
""".split())

METHODS = set("""
    append clear copy count endswith extend find get index insert isalnum isalpha isdigit islower isspace isupper
    items join keys ljust lower lstrip partition pop remove replace reverse rfind rjust rpartition rsplit rstrip
    setdefault split splitlines startswith strip update upper values zfill bit_length
""".split())

NODES = set("""
    Module FunctionDef ClassDef arguments arg Lambda keyword alias ImportFrom
    Assign AugAssign AnnAssign If While For Return Break Continue Pass Raise Try ExceptHandler Expr
    Constant Name Attribute Subscript Slice List Tuple Dict Set ListComp comprehension JoinedStr FormattedValue
    BinOp UnaryOp BoolOp Compare IfExp Call Load Store
    Add Sub Mult FloorDiv Mod Pow BitAnd BitOr BitXor LShift RShift Invert USub UAdd And Or Not
    Eq NotEq Lt LtE Gt GtE Is IsNot In NotIn
""".split())

WORDS = re.compile(r"""
    \b(type|typing|typing_extensions|enum|Enum|IntEnum|StrEnum|Flag|IntFlag|Generic|Protocol|ABC|ABCMeta|namedtuple
    |NamedTuple|TypedDict|TYPE_CHECKING|abstractmethod)\b|dataclass|overload|contextmanager
""", re.VERBOSE)


def walk(path):
    return list(ast.walk(ast.parse(path.read_text(encoding="utf-8"))))


def nodes_of(*wanted):
    """Each node of these sorts in the package, with its file's name."""
    return [(path.name, node) for path in FILES for node in walk(path) if isinstance(node, wanted)]


def bound_names():
    """Each name that the package gives to something of its own."""
    for name, node in nodes_of(ast.FunctionDef, ast.ClassDef, ast.arg, ast.Name):
        if isinstance(node, ast.arg):
            yield name, node.arg
        elif isinstance(node, ast.Name):
            if isinstance(node.ctx, ast.Store):
                yield name, node.id
        else:
            yield name, node.name


def is_plain(node, inner=False):
    """Whether a node is a value that may stand at a file's top; within another no list and no dict."""
    if isinstance(node, ast.Tuple):
        return all(is_plain(item, True) for item in node.elts)
    if isinstance(node, ast.List):
        return not inner and all(is_plain(item, True) for item in node.elts)
    if isinstance(node, ast.Dict):
        return not inner and all(is_plain(item, True) for item in node.keys + node.values)
    return isinstance(node, (ast.Constant, ast.Name))


def calls_of(tree, names):
    """The calls of these names of Python's own."""
    return [node for node in ast.walk(tree) if isinstance(node, ast.Call)
            and isinstance(node.func, ast.Name) and node.func.id in names]


def walked_at_once(tree):
    """The nodes that stand where something may be walked on the spot."""
    walked = [node.iter for node in ast.walk(tree) if isinstance(node, (ast.For, ast.comprehension))]
    for node in calls_of(tree, "list tuple dict sorted sum any all enumerate".split()):
        walked += node.args[:1]
    for node in calls_of(tree, ["zip"]):
        walked += node.args
    for node in calls_of(tree, ["min", "max"]):
        walked += node.args if len(node.args) == 1 and not node.keywords else []
    return walked


class Language(unittest.TestCase):
    def test_files(self):
        self.assertIn(PACKAGE / "cells.py", FILES)
        for path in PACKAGE.rglob("*"):
            if "__pycache__" not in path.parts:
                self.assertRegex(path.name, r"\A([a-z][a-z0-9_]*|__init__|__main__)\.py\Z")
                self.assertFalse(path.name.startswith("test"))

    def test_sizes_and_signs(self):
        for path in FILES:
            text = path.read_bytes().decode("ascii")
            rows = text.split("\n")
            self.assertLessEqual(len(rows), 399, path.name)
            self.assertTrue(all(len(row) <= 120 for row in rows), path.name)
            self.assertRegex(text, r"\A[ -~\n]*\Z")
            self.assertIsNone(WORDS.search(text), path.name)
        for name, node in nodes_of(ast.FunctionDef):
            self.assertLessEqual(node.end_lineno - node.lineno + 1, 40, (name, node.name))

    def test_statements_and_expressions(self):
        for name, node in nodes_of(ast.AST):
            self.assertIn(type(node).__name__, NODES, (name, getattr(node, "lineno", 0)))
        for name, node in nodes_of(ast.Constant):
            self.assertIn(type(node.value), (int, str, bool, type(None)), (name, node.lineno))
        for name, node in nodes_of(ast.Assign):
            self.assertEqual(len(node.targets), 1, (name, node.lineno))
        for name, node in nodes_of(ast.For, ast.While):
            self.assertEqual(node.orelse, [], (name, node.lineno))

    def test_functions(self):
        for name, node in nodes_of(ast.FunctionDef):
            self.assertEqual(node.decorator_list, [], (name, node.name))
        for name, node in nodes_of(ast.arguments):
            self.assertEqual([node.vararg, node.kwarg, node.kwonlyargs, node.posonlyargs], [None, None, [], []], name)

    def test_names(self):
        own = set(dir(builtins))
        for name, bound in bound_names():
            self.assertRegex(bound, r"\A([A-Za-z][A-Za-z0-9_]*|__[a-z]+__)\Z", name)
            self.assertNotIn(bound, own, name)
        for name, node in nodes_of(ast.Name):
            if node.id in own:
                self.assertIn(node.id, NAMES, (name, node.lineno))
        for name, node in nodes_of(ast.Attribute):
            self.assertFalse(node.attr.startswith("_"), (name, node.lineno))

    def test_methods(self):
        own = {node.name for _, node in nodes_of(ast.FunctionDef)}
        for name, node in nodes_of(ast.Call):
            if isinstance(node.func, ast.Attribute):
                self.assertIn(node.func.attr, METHODS | own, (name, node.lineno))

    def test_the_top_of_files(self):
        for path in FILES:
            bound = []
            for node in ast.parse(path.read_text(encoding="utf-8")).body:
                self.assertIsInstance(node, (ast.Expr, ast.ImportFrom, ast.FunctionDef, ast.ClassDef, ast.Assign))
                if isinstance(node, ast.Expr):
                    self.assertIsInstance(node.value.value, str, path.name)
                elif isinstance(node, ast.Assign):
                    self.assertTrue(is_plain(node.value), (path.name, node.lineno))
                    bound.append(node.targets[0].id)
                elif isinstance(node, ast.ImportFrom):
                    bound += [alias.name for alias in node.names]
                else:
                    bound.append(node.name)
            self.assertEqual(len(bound), len(set(bound)), path.name)

    def test_what_is_walked_at_once(self):
        for path in FILES:
            tree = ast.parse(path.read_text(encoding="utf-8"))
            walked = walked_at_once(tree)
            for node in calls_of(tree, ["zip", "enumerate", "reversed", "range"]):
                self.assertIn(node, walked, (path.name, node.lineno))

    def test_keywords(self):
        for path in FILES:
            for node in calls_of(ast.parse(path.read_text(encoding="utf-8")), NAMES):
                allowed = {"sorted": {"key", "reverse"}, "min": {"key", "default"}, "max": {"key", "default"},
                           "sum": {"start"}, "enumerate": {"start"}, "zip": {"strict"}}.get(node.func.id, set())
                self.assertTrue({keyword.arg for keyword in node.keywords} <= allowed, (path.name, node.lineno))

    def test_comparisons_powers_and_texts(self):
        for name, node in nodes_of(ast.Compare):
            for sign, other in zip(node.ops, node.comparators):
                if isinstance(sign, (ast.Is, ast.IsNot)):
                    self.assertTrue(isinstance(other, ast.Constant) and other.value in (None, True, False), name)
        for name, node in nodes_of(ast.BinOp):
            if isinstance(node.op, ast.Pow):
                self.assertIsInstance(node.right, ast.Constant, (name, node.lineno))
        for name, node in nodes_of(ast.Constant):
            self.assertNotIn("%", str(node.value), (name, node.lineno))
        # None is needed, so none is there that could be walked in its own order.
        for name, node in nodes_of(ast.Name):
            self.assertNotIn(node.id, ("set", "frozenset"), (name, node.lineno))

    def test_comprehensions(self):
        for name, node in nodes_of(ast.ListComp):
            self.assertEqual(len(node.generators), 1, (name, node.lineno))
            self.assertLessEqual(len(node.generators[0].ifs), 1, (name, node.lineno))

    def test_the_interface_stands_in_its_file_alone(self):
        found = [(name, node.name) for name, node in nodes_of(ast.FunctionDef, ast.ClassDef) if node.name == "answers"]
        self.assertEqual(found, [("cells.py", "answers")])

    def test_imports(self):
        for name, node in nodes_of(ast.ImportFrom):
            self.assertEqual(node.level, 0, name)
            self.assertRegex(node.module, r"\Aspacebook\.[a-z_]+\Z", name)
            for alias in node.names:
                self.assertNotEqual(alias.name, "*", name)
                # Drawn from the very file that defines it.
                source = (PACKAGE / (node.module.split(".")[1] + ".py")).read_text(encoding="utf-8")
                self.assertRegex(source, rf"(?m)^(def|class) {alias.name}\b|^{alias.name} = ", name)

    def test_no_two_files_draw_from_one_another(self):
        drawn = {path.stem: set() for path in FILES}
        for name, node in nodes_of(ast.ImportFrom):
            drawn[name[:-3]].add(node.module.split(".")[1])
        for stem in drawn:
            seen, waiting = set(), list(drawn[stem])
            while waiting:
                other = waiting.pop()
                if other not in seen:
                    seen.add(other)
                    waiting += drawn[other]
            self.assertNotIn(stem, seen)


if __name__ == "__main__":
    unittest.main()
