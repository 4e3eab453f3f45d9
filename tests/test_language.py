"""The package's files against those rules of the language that can be read off a file."""

import ast
import builtins
import io
import pathlib
import re
import tokenize
import unittest

PACKAGE = pathlib.Path(__file__).resolve().parent.parent / "halvedpebbles"

STATEMENTS = (
    ast.Assign, ast.AugAssign, ast.If, ast.While, ast.For, ast.Return, ast.Break, ast.Continue, ast.Pass,
    ast.Raise, ast.Try, ast.Expr, ast.FunctionDef, ast.ClassDef, ast.ImportFrom,
)
EXPRESSIONS = (
    ast.Constant, ast.Name, ast.Attribute, ast.Subscript, ast.Slice, ast.Call, ast.List, ast.Tuple, ast.Dict,
    ast.Set, ast.ListComp, ast.BinOp, ast.UnaryOp, ast.BoolOp, ast.Compare, ast.IfExp, ast.Lambda, ast.JoinedStr,
    ast.FormattedValue,
)
BUILTINS = set(
    "len range enumerate zip min max sum abs sorted reversed int str bool list tuple dict set frozenset isinstance "
    "ord repr any all divmod Exception ValueError TypeError KeyError IndexError LookupError ZeroDivisionError "
    "ArithmeticError OverflowError RuntimeError NotImplementedError AttributeError StopIteration".split()
)
METHODS = set(
    "append clear copy count endswith extend find get index insert isalnum isalpha isdigit islower isspace isupper "
    "items join keys ljust lower lstrip partition pop remove replace reverse rfind rjust rpartition rsplit rstrip "
    "setdefault split splitlines startswith strip update upper values zfill bit_length".split()
)
UNUSED_NAMES = set(
    "register mro elements open input version_info with_traceback add_note attrgetter breakpoint builtins compile "
    "copyright credits delattr dir eval exec exit gc getattr globals hasattr help id importlib license locals "
    "methodcaller os quit setattr super vars sys".split()
)
UNUSED_WORDS = re.compile(
    r"\b(type|typing|typing_extensions|enum|Enum|IntEnum|StrEnum|Flag|IntFlag|Generic|Protocol|ABC|ABCMeta"
    r"|namedtuple|NamedTuple|TypedDict|TYPE_CHECKING|abstractmethod)\b|dataclass|overload|contextmanager"
)
WALKED_AT_ONCE = ("zip", "enumerate", "reversed", "range", "items", "keys", "values")
WALKERS = ("list", "tuple", "dict", "sorted", "sum", "any", "all", "enumerate", "zip", "min", "max", "join")
PLAIN_NAME = re.compile(r"[A-Za-z][A-Za-z0-9_]*|__[a-z]+__")


def files():
    return sorted(path for path in PACKAGE.rglob("*.py") if "__pycache__" not in path.parts)


def trees():
    return [(path.name, ast.parse(path.read_text(encoding="ascii"))) for path in files()]


def nodes():
    return [(name, node) for name, tree in trees() for node in ast.walk(tree)]


def called_name(call):
    """The name behind the last dot of what a call calls."""
    return call.func.attr if isinstance(call.func, ast.Attribute) else getattr(call.func, "id", "")


def walked(tree):
    """The values that are walked on the spot, by a loop or as the first thing in a call."""
    found = [node.iter for node in ast.walk(tree) if isinstance(node, (ast.For, ast.comprehension))]
    for node in ast.walk(tree):
        if isinstance(node, ast.Call) and called_name(node) in WALKERS:
            found.extend(node.args[:1])
    return found


def bound_names(node):
    """The names that a node binds by itself."""
    if isinstance(node, ast.Name) and isinstance(node.ctx, ast.Store):
        return [node.id]
    if isinstance(node, (ast.FunctionDef, ast.ClassDef)):
        return [node.name]
    if isinstance(node, ast.arg):
        return [node.arg]
    if isinstance(node, ast.ExceptHandler) and node.name:
        return [node.name]
    return []


class Files(unittest.TestCase):
    def test_only_python_files_with_plain_names(self):
        for path in PACKAGE.rglob("*"):
            if path.name != "__pycache__" and "__pycache__" not in path.parts:
                self.assertRegex(path.name, r"^([a-z][a-z0-9_]*|__init__|__main__)\.py$")
                self.assertNotIn(path.stem, set(dir(builtins)) | UNUSED_NAMES)
                self.assertNotRegex(path.stem, r"^(test|tests|testing|test_.*|site|conftest)$")
        self.assertTrue((PACKAGE / "__init__.py").is_file())
        self.assertTrue((PACKAGE / "graph.py").is_file())

    def test_signs_and_sizes(self):
        for path in files():
            text = path.read_bytes().decode("ascii")
            self.assertNotRegex(text, r"[^ -~\n]", path.name)
            rows = text.split("\n")
            self.assertLessEqual(len(rows), 400, path.name)
            self.assertLessEqual(max(len(row) for row in rows), 120, path.name)

    def test_functions_of_at_most_40_lines(self):
        for name, node in nodes():
            if isinstance(node, ast.FunctionDef):
                self.assertLessEqual(node.end_lineno - node.lineno + 1, 40, (name, node.name))

    def test_words_that_stand_nowhere(self):
        for path in files():
            self.assertIsNone(UNUSED_WORDS.search(path.read_text(encoding="ascii")), path.name)

    def test_escapes_in_texts(self):
        for path in files():
            for token in tokenize.generate_tokens(io.StringIO(path.read_text(encoding="ascii")).readline):
                if token.type == tokenize.STRING:
                    self.assertNotRegex(token.string.replace("\\\\", ""), r"\\[^nt'\"]|%", path.name)


class Parts(unittest.TestCase):
    def test_top_of_a_file(self):
        for name, tree in trees():
            self.assertIsNotNone(ast.get_docstring(tree), name)
            for node in tree.body[1:]:
                allowed = (ast.ImportFrom, ast.FunctionDef, ast.ClassDef, ast.Assign)
                self.assertIsInstance(node, allowed, (name, node.lineno))

    def test_imports_of_the_own_package_alone(self):
        for name, node in nodes():
            if isinstance(node, ast.ImportFrom):
                self.assertEqual(node.level, 0, name)
                self.assertRegex(node.module, r"^halvedpebbles\.[a-z][a-z0-9_]*$")
                self.assertNotIn("*", [alias.name for alias in node.names])

    def test_statements_and_expressions(self):
        for name, node in nodes():
            if isinstance(node, ast.stmt):
                self.assertIsInstance(node, STATEMENTS, (name, node.lineno))
            elif isinstance(node, ast.expr):
                self.assertIsInstance(node, EXPRESSIONS, (name, node.lineno))
            elif isinstance(node, ast.operator):
                self.assertNotIsInstance(node, (ast.Div, ast.MatMult), name)
            elif isinstance(node, ast.comprehension):
                self.assertLessEqual(len(node.ifs), 1, name)

    def test_narrower_forms(self):
        for name, node in nodes():
            where = (name, getattr(node, "lineno", 0))
            if isinstance(node, ast.Assign):
                self.assertEqual(len(node.targets), 1, where)
            if isinstance(node, (ast.For, ast.While)):
                self.assertEqual(node.orelse, [], where)
            if isinstance(node, ast.Try):
                self.assertEqual(node.finalbody, [], where)
            if isinstance(node, ast.ListComp):
                self.assertEqual(len(node.generators), 1, where)
            if isinstance(node, ast.Constant):
                self.assertIn(type(node.value), (int, str, bool, type(None)), where)
            if isinstance(node, (ast.FunctionDef, ast.ClassDef)):
                self.assertEqual(node.decorator_list, [], where)
            if isinstance(node, ast.arguments):
                self.assertEqual((node.vararg, node.kwarg, node.kwonlyargs, node.posonlyargs), (None, None, [], []))
            if isinstance(node, ast.BinOp) and isinstance(node.op, ast.Pow):
                self.assertIsInstance(node.right, ast.Constant, where)
            if isinstance(node, ast.Compare):
                for operator, right in zip(node.ops, node.comparators):
                    if isinstance(operator, (ast.Is, ast.IsNot)):
                        self.assertIn(ast.dump(right), [ast.dump(ast.Constant(v)) for v in (None, True, False)], where)

    def test_what_is_walked_at_once(self):
        for name, tree in trees():
            on_the_spot = walked(tree)
            for node in ast.walk(tree):
                if isinstance(node, ast.Call) and called_name(node) in WALKED_AT_ONCE:
                    self.assertIn(node, on_the_spot, (name, node.lineno))


class Names(unittest.TestCase):
    def test_bound_names(self):
        found = nodes()
        methods = [method for _, node in found if isinstance(node, ast.ClassDef) for method in node.body]
        for name, node in found:
            for bound in bound_names(node):
                self.assertTrue(PLAIN_NAME.fullmatch(bound), (name, bound))
                self.assertNotIn(bound, UNUSED_NAMES, name)
                if node not in methods:
                    self.assertNotIn(bound, dir(builtins), name)

    def test_names_of_the_top_are_bound_once(self):
        for name, tree in trees():
            bound = [one for node in tree.body for part in [node, *getattr(node, "targets", [])]
                     for one in bound_names(part)]
            self.assertEqual(sorted(bound), sorted(set(bound)), name)

    def test_names_that_are_read(self):
        for name, tree in trees():
            known = set(BUILTINS)
            for node in ast.walk(tree):
                known.update(bound_names(node))
                if isinstance(node, ast.ImportFrom):
                    known.update(alias.asname or alias.name for alias in node.names)
            for node in ast.walk(tree):
                if isinstance(node, ast.Name):
                    self.assertIn(node.id, known, (name, node.lineno))

    def test_methods(self):
        own = set()
        for _, node in nodes():
            own.update(bound_names(node))
            if isinstance(node, ast.Attribute) and isinstance(node.ctx, ast.Store):
                own.add(node.attr)
        for name, node in nodes():
            if isinstance(node, ast.Attribute):
                self.assertIn(node.attr, METHODS | own, (name, node.lineno))


if __name__ == "__main__":
    unittest.main()
