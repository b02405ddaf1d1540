"""The package's files keep to the part of Python that they are to be written in, so far as can be read off them."""

import ast
import builtins
import pathlib
import re
import unittest

PACKAGE = pathlib.Path(__file__).resolve().parent.parent / "farwords"

NODES = set("""
Module Expr Assign AugAssign If While For Return Break Continue Pass Raise Try ExceptHandler ImportFrom alias
FunctionDef ClassDef arguments arg Lambda Constant List Tuple Dict Set ListComp comprehension Name Attribute Subscript
Slice Call keyword BinOp UnaryOp BoolOp Compare IfExp JoinedStr FormattedValue Load Store
Add Sub Mult FloorDiv Mod Pow BitAnd BitOr BitXor LShift RShift Invert USub UAdd Not And Or
Eq NotEq Lt LtE Gt GtE Is IsNot In NotIn
""".split())

OWN_NAMES = set("""
len range enumerate zip min max sum abs sorted reversed int str bool list tuple dict set frozenset isinstance ord repr
any all divmod Exception ValueError TypeError KeyError IndexError LookupError ZeroDivisionError ArithmeticError
OverflowError RuntimeError NotImplementedError AttributeError StopIteration
""".split())

OWN_METHODS = set("""
append clear copy count endswith extend find get index insert isalnum isalpha isdigit islower isspace isupper items
join keys ljust lower lstrip partition pop remove replace reverse rfind rjust rpartition rsplit rstrip setdefault split
splitlines startswith strip update upper values zfill bit_length
""".split())

DUNDERS = {"__init__", "__eq__", "__repr__", "__str__", "__len__"}

WORDS_NOWHERE = """type typing typing_extensions enum Enum IntEnum StrEnum Flag IntFlag Generic Protocol ABC ABCMeta
namedtuple NamedTuple TypedDict TYPE_CHECKING abstractmethod""".split()

NAMES_NOWHERE = set("""
register mro elements open input version_info with_traceback add_note attrgetter breakpoint builtins compile copyright
credits delattr dir eval exec exit gc getattr globals hasattr help id importlib license locals methodcaller os quit
setattr super vars sys format format_map
""".split())

FILES = sorted(path for path in PACKAGE.rglob("*") if "__pycache__" not in path.parts)
TREES = {path.name: ast.parse(path.read_text()) for path in FILES if path.suffix == ".py"}


def nodes(kind):
    return [(name, node) for name, tree in TREES.items() for node in ast.walk(tree) if isinstance(node, kind)]


def local_names(tree):
    """Parameters and what a def gives a value to."""
    for one in ast.walk(tree):
        if isinstance(one, ast.FunctionDef):
            for node in ast.walk(one):
                if isinstance(node, ast.arg):
                    yield node.arg
                elif isinstance(node, ast.Name) and isinstance(node.ctx, ast.Store):
                    yield node.id


def top_names(tree):
    for node in tree.body:
        if isinstance(node, (ast.FunctionDef, ast.ClassDef)):
            yield node.name
        elif isinstance(node, ast.Assign):
            yield node.targets[0].id
        elif isinstance(node, ast.ImportFrom):
            for one in node.names:
                yield one.name


class Language(unittest.TestCase):
    def test_files(self):
        self.assertIn("__init__.py", TREES)
        for path in FILES:
            with self.subTest(file=path.name):
                self.assertRegex(path.name, r"^(__init__|[a-z][a-z0-9_]*)\.py$")
                self.assertNotIn(path.stem, dir(builtins))
                self.assertIsNone(re.match(r"test|site|conftest|usercustomize", path.stem))

    def test_sizes_and_signs(self):
        for path in FILES:
            text = path.read_text()
            with self.subTest(file=path.name):
                self.assertIsNone(re.search(r"[^ -~\n]", text))
                self.assertLessEqual(len(text.splitlines()), 400)
                self.assertLessEqual(max(len(row) for row in text.splitlines()), 120)
                self.assertIsNone(re.search(r"\b(" + "|".join(WORDS_NOWHERE) + r")\b", text))
                self.assertIsNone(re.search("dataclass|overload|contextmanager", text))
        for name, node in nodes(ast.FunctionDef):
            with self.subTest(file=name, function=node.name):
                self.assertLessEqual(node.end_lineno - node.lineno + 1, 40)

    def test_statements_and_expressions(self):
        for name, node in nodes(ast.AST):
            with self.subTest(file=name, line=getattr(node, "lineno", 0)):
                self.assertIn(type(node).__name__, NODES)
                self.assertFalse(getattr(node, "decorator_list", []))
                if isinstance(node, (ast.For, ast.While)):
                    self.assertFalse(node.orelse)
                if isinstance(node, ast.Try):
                    self.assertFalse(node.finalbody)
                if isinstance(node, ast.Assign):
                    self.assertEqual(len(node.targets), 1)
                if isinstance(node, ast.ListComp):
                    self.assertEqual(len(node.generators), 1)
                    self.assertLessEqual(len(node.generators[0].ifs), 1)
                if isinstance(node, ast.Constant):
                    self.assertIn(type(node.value), (int, str, bool, type(None)))
                if isinstance(node, ast.BinOp) and isinstance(node.op, ast.Pow):
                    self.assertIsInstance(node.right, ast.Constant)
                if isinstance(node, ast.Compare):
                    for sign, right in zip(node.ops, node.comparators):
                        if isinstance(sign, (ast.Is, ast.IsNot)):
                            self.assertIn(getattr(right, "value", ""), (None, True, False))
                self.assertIsNone(getattr(node, "annotation", None) or getattr(node, "returns", None))
                if isinstance(node, ast.arguments):
                    self.assertFalse(node.vararg or node.kwarg or node.kwonlyargs or node.posonlyargs)

    def test_imports(self):
        for name, node in nodes(ast.ImportFrom):
            with self.subTest(file=name, line=node.lineno):
                self.assertEqual(node.level, 0)
                self.assertRegex(node.module, r"^farwords\.[a-z_0-9]+$")
                other = TREES[node.module.split(".")[1] + ".py"]
                defined = [one.name for one in other.body if isinstance(one, (ast.FunctionDef, ast.ClassDef))]
                defined += [one.targets[0].id for one in other.body if isinstance(one, ast.Assign)]
                for one in node.names:
                    self.assertIsNone(one.asname)
                    self.assertIn(one.name, defined)

    def test_no_two_files_draw_from_one_another(self):
        draws = {name: set() for name in TREES}
        for name, node in nodes(ast.ImportFrom):
            draws[name] |= {node.module.split(".")[1] + ".py", "__init__.py"}
        for _ in draws:
            for name in draws:
                draws[name] |= {further for other in draws[name] for further in draws[other]}
        for name in draws:
            self.assertNotIn(name, draws[name])

    def test_the_top_of_a_file(self):
        for name, tree in TREES.items():
            with self.subTest(file=name):
                self.assertIsNotNone(ast.get_docstring(tree))
                for node in tree.body[1:]:
                    self.assertIsInstance(node, (ast.ImportFrom, ast.FunctionDef, ast.ClassDef, ast.Assign))
                    if isinstance(node, ast.Assign):
                        ast.literal_eval(node.value)
                tops = list(top_names(tree))
                self.assertEqual(len(tops), len(set(tops)))

    def test_names(self):
        own = {name for tree in TREES.values() for name in list(top_names(tree)) + list(local_names(tree))}
        own |= {node.name for name, node in nodes(ast.FunctionDef)}
        for name in own - DUNDERS:
            with self.subTest(name=name):
                self.assertRegex(name, r"^[A-Za-z][A-Za-z0-9_]*$")
                self.assertNotIn(name, dir(builtins))
                self.assertNotIn(name, NAMES_NOWHERE)
        for name, tree in TREES.items():
            tops = {one for one in top_names(tree)}
            with self.subTest(file=name):
                self.assertFalse(tops & set(local_names(tree)))
        for name, node in nodes(ast.Name):
            with self.subTest(file=name, line=node.lineno):
                self.assertIn(node.id, own | OWN_NAMES)

    def test_methods_and_values(self):
        methods = {one.name for name, node in nodes(ast.ClassDef) for one in node.body
                   if isinstance(one, ast.FunctionDef)}
        values = {node.attr for name, node in nodes(ast.Attribute) if isinstance(node.ctx, ast.Store)}
        self.assertFalse(methods & values)
        pythons = {name for kind in (str, int, list, dict, set, bytes, tuple) for name in dir(kind)}
        self.assertFalse((methods - DUNDERS - OWN_METHODS - {"add", "discard"}) & pythons)
        self.assertFalse(values & pythons)
        for name, node in nodes(ast.Attribute):
            with self.subTest(file=name, line=node.lineno):
                self.assertIn(node.attr, methods | values | OWN_METHODS)
                self.assertNotIn(node.attr, NAMES_NOWHERE)


if __name__ == "__main__":
    unittest.main()
