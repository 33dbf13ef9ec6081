"""The form of the package's own files: the rules of the language that it keeps to, as far as its syntax shows them."""

import ast
import builtins
import re
import unittest
from pathlib import Path

PACKAGE = Path(__file__).resolve().parent.parent / "hedgedcalls"

STATEMENTS = (
    ast.Assign, ast.AugAssign, ast.If, ast.While, ast.For, ast.Return, ast.Break, ast.Continue, ast.Pass, ast.Raise,
    ast.Try, ast.ExceptHandler, ast.Expr, ast.FunctionDef, ast.ClassDef, ast.ImportFrom,
)
EXPRESSIONS = (
    ast.Constant, ast.Name, ast.Attribute, ast.Subscript, ast.Slice, ast.Call, ast.keyword, ast.List, ast.Tuple,
    ast.Dict, ast.ListComp, ast.comprehension, ast.Lambda, ast.IfExp, ast.BoolOp, ast.BinOp, ast.UnaryOp, ast.Compare,
    ast.JoinedStr, ast.FormattedValue,
)
PARTS = (
    ast.Module, ast.arguments, ast.arg, ast.alias, ast.Load, ast.Store, ast.And, ast.Or, ast.Not, ast.USub, ast.Add,
    ast.Sub, ast.Mult, ast.FloorDiv, ast.Mod, ast.Pow, ast.BitAnd, ast.BitOr, ast.BitXor, ast.LShift, ast.RShift,
    ast.Eq, ast.NotEq, ast.Lt, ast.LtE, ast.Gt, ast.GtE, ast.In, ast.NotIn, ast.Is, ast.IsNot,
)
BUILT_INS = set("""
    len range enumerate zip min max sum abs sorted reversed int str bool list tuple dict set frozenset isinstance ord
    repr any all divmod Exception ValueError TypeError KeyError IndexError LookupError ZeroDivisionError
    ArithmeticError OverflowError RuntimeError NotImplementedError AttributeError StopIteration
""".split())
METHODS = set("""
    append clear copy count endswith extend find get index insert isalnum isalpha isdigit islower isspace isupper items
    join keys ljust lower lstrip partition pop remove replace reverse rfind rjust rpartition rsplit rstrip setdefault
    split splitlines startswith strip update upper values zfill bit_length
""".split())
WORDS_NOWHERE = """
    type typing typing_extensions enum Enum IntEnum StrEnum Flag IntFlag Generic Protocol ABC ABCMeta namedtuple
    NamedTuple TypedDict TYPE_CHECKING abstractmethod
""".split()
NAMES_NOWHERE = set("""
    register mro elements open input version_info with_traceback add_note attrgetter breakpoint builtins compile
    copyright credits delattr dir eval exec exit gc getattr globals hasattr help id importlib license locals
    methodcaller os quit setattr super vars sys format format_map
""".split())
OF_PLAIN_VALUES = {name for kind in (str, int, list, dict, set, bytes, tuple) for name in dir(kind)}
VALUES_ALLOWED = {"count", "index", "title", "find", "get", "join", "lower", "upper", "split", "strip", "copy", "add"}


def files():
    return sorted(PACKAGE.glob("*.py"))


def tree_of(path):
    return ast.parse(path.read_text(encoding="utf-8"))


def nodes(*kinds):
    for path in files():
        for node in ast.walk(tree_of(path)):
            if isinstance(node, kinds):
                yield path.name, node


def bound_names(tree):
    """The parameters and locals of a file's functions."""
    for function in ast.walk(tree):
        if isinstance(function, (ast.FunctionDef, ast.Lambda)):
            for node in ast.walk(function):
                if isinstance(node, ast.arg):
                    yield node.arg
                if isinstance(node, ast.Name) and isinstance(node.ctx, ast.Store):
                    yield node.id


def top_names(tree):
    for node in tree.body:
        if isinstance(node, (ast.FunctionDef, ast.ClassDef)):
            yield node.name
        if isinstance(node, ast.Assign):
            yield node.targets[0].id


class Files(unittest.TestCase):
    def test_nothing_but_plain_files_lies_in_the_package(self):
        names = [path.name for path in PACKAGE.iterdir() if path.name != "__pycache__"]
        self.assertIn("__init__.py", names)
        for name in names:
            self.assertRegex(name, r"^(__init__|[a-z][a-z0-9_]*)\.py$")
            self.assertNotRegex(name, r"^(tests?|testing|test_.*|site|conftest|sitecustomize|usercustomize)\.py$")
            self.assertTrue(name == "__init__.py" or not hasattr(builtins, name[:-3]), name)

    def test_signs_and_sizes(self):
        for path in files():
            text = path.read_bytes().decode("ascii")
            self.assertRegex(text, r"^[ -~\n]*$")
            lines = text.split("\n")
            self.assertLessEqual(len(lines) - 1, 399, path.name)
            self.assertLessEqual(max(len(line) for line in lines), 120, path.name)
        for name, node in nodes(ast.FunctionDef):
            self.assertLessEqual(node.end_lineno - node.lineno + 1, 40, (name, node.name))

    def test_words_that_stand_nowhere(self):
        for path in files():
            text = path.read_text()
            for word in WORDS_NOWHERE:
                self.assertIsNone(re.search(rf"\b{word}\b", text), (path.name, word))
            for word in ("dataclass", "overload", "contextmanager"):
                self.assertNotIn(word, text, path.name)


class Tops(unittest.TestCase):
    def test_a_docstring_and_plain_statements(self):
        for path in files():
            tree = tree_of(path)
            self.assertTrue(ast.get_docstring(tree), path.name)
            for node in tree.body[1:]:
                self.assertIsInstance(node, (ast.ImportFrom, ast.FunctionDef, ast.ClassDef, ast.Assign), path.name)
            names = list(top_names(tree))
            self.assertEqual(len(names), len(set(names)), path.name)

    def test_imports_are_the_packages_own_from_where_the_names_are_defined(self):
        defined = {path.stem: set(top_names(tree_of(path))) for path in files()}
        for name, node in nodes(ast.Import, ast.ImportFrom):
            self.assertIsInstance(node, ast.ImportFrom, name)
            self.assertEqual(node.level, 0)
            package, file = node.module.split(".")
            self.assertEqual(package, "hedgedcalls")
            for alias in node.names:
                self.assertIn(alias.name, defined[file])
                self.assertIsNone(alias.asname)

    def test_no_two_files_draw_from_one_another(self):
        draws = {path.stem: [] for path in files()}
        for name, node in nodes(ast.ImportFrom):
            draws[name[:-3]].append(node.module.split(".")[1])
        done = set()
        while len(done) < len(draws):
            ready = {name for name, needed in draws.items() if name not in done and done.issuperset(needed)}
            self.assertTrue(ready, sorted(set(draws) - done))
            done |= ready

    def test_top_values_hold_no_list_or_dict(self):
        for path in files():
            for node in tree_of(path).body:
                if isinstance(node, ast.Assign):
                    inner = [part for part in ast.walk(node.value) if part is not node.value]
                    self.assertFalse([part for part in inner if isinstance(part, (ast.List, ast.Dict))], path.name)


class Syntax(unittest.TestCase):
    def test_only_the_statements_and_expressions_of_the_language(self):
        for name, node in nodes(ast.AST):
            self.assertIsInstance(node, STATEMENTS + EXPRESSIONS + PARTS, (name, ast.dump(node)[:200]))

    def test_plain_functions_and_classes(self):
        for name, node in nodes(ast.FunctionDef, ast.ClassDef):
            self.assertEqual(node.decorator_list, [], (name, node.name))
        for name, node in nodes(ast.arguments):
            self.assertEqual([node.vararg, node.kwarg, node.kwonlyargs, node.posonlyargs], [None, None, [], []], name)
        for name, node in nodes(ast.ClassDef):
            for part in node.body:
                self.assertTrue(isinstance(part, ast.FunctionDef) or ast.get_docstring(node), (name, node.name))

    def test_one_target_and_no_else_behind_a_loop(self):
        for name, node in nodes(ast.Assign):
            self.assertEqual(len(node.targets), 1, name)
        for name, node in nodes(ast.For, ast.While):
            self.assertEqual(node.orelse, [], name)
        for name, node in nodes(ast.ListComp):
            self.assertEqual(len(node.generators), 1, name)
            self.assertLessEqual(len(node.generators[0].ifs), 1, name)

    def test_constants(self):
        for name, node in nodes(ast.Constant):
            self.assertTrue(node.value is None or isinstance(node.value, (int, str)), name)
            self.assertNotIn("%", str(node.value), name)
        for name, node in nodes(ast.BinOp):
            if isinstance(node.op, ast.Pow):
                self.assertIsInstance(node.right, ast.Constant, name)

    def test_is_stands_beside_none_and_truth_alone(self):
        for name, node in nodes(ast.Compare):
            for sign, other in zip(node.ops, node.comparators):
                if isinstance(sign, (ast.Is, ast.IsNot)):
                    self.assertIsInstance(other, ast.Constant, name)


class Names(unittest.TestCase):
    def test_no_built_in_names_but_those_of_the_language(self):
        for name, node in nodes(ast.Name):
            if hasattr(builtins, node.id):
                self.assertIn(node.id, BUILT_INS, name)
                self.assertIsInstance(node.ctx, ast.Load, name)

    def test_locals_are_called_like_nothing_else(self):
        for path in files():
            tree = tree_of(path)
            taken = {part.name for part in tree.body if isinstance(part, ast.ClassDef)}
            taken |= {alias.name for part in tree.body if isinstance(part, ast.ImportFrom) for alias in part.names}
            for bound in bound_names(tree):
                self.assertNotIn(bound, taken, path.name)
                self.assertFalse(hasattr(builtins, bound), (path.name, bound))

    def test_plain_names(self):
        for name, node in nodes(ast.Name, ast.arg, ast.FunctionDef, ast.ClassDef, ast.Attribute):
            word = getattr(node, "id", None) or getattr(node, "arg", None) or getattr(node, "name", None) or node.attr
            self.assertNotIn(word, NAMES_NOWHERE, name)
            if word != "__init__":
                self.assertRegex(word, r"^[A-Za-z][A-Za-z0-9_]*$", name)

    def test_methods_and_values_of_objects(self):
        own = {method.name for name, node in nodes(ast.ClassDef) for method in node.body
               if isinstance(method, ast.FunctionDef)}
        for path in files():
            tree = tree_of(path)
            called = {id(node.func) for node in ast.walk(tree) if isinstance(node, ast.Call)}
            for node in ast.walk(tree):
                if isinstance(node, ast.Attribute) and id(node) in called:
                    self.assertIn(node.attr, METHODS | own, path.name)
                elif isinstance(node, ast.Attribute):
                    self.assertNotIn(node.attr, OF_PLAIN_VALUES - VALUES_ALLOWED, path.name)
                    self.assertNotIn(node.attr, own, path.name)


if __name__ == "__main__":
    unittest.main()
