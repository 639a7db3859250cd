"""The package keeps to its small part of Python: what of those rules a look at the syntax tree can tell."""

import ast
import pathlib
import re
import unittest

PACKAGE = pathlib.Path(__file__).resolve().parent.parent / "bloodlines"

ALLOWED_NODES = (
    ast.Module, ast.Expr, ast.ImportFrom, ast.alias, ast.FunctionDef, ast.Lambda, ast.arguments, ast.arg,
    ast.ClassDef, ast.Assign, ast.AugAssign, ast.If, ast.While, ast.For, ast.Return, ast.Break, ast.Continue,
    ast.Pass, ast.Raise, ast.Try, ast.ExceptHandler, ast.Call, ast.keyword, ast.Constant, ast.List, ast.Tuple,
    ast.Dict, ast.Set, ast.BinOp, ast.UnaryOp, ast.BoolOp, ast.Compare, ast.IfExp, ast.Attribute, ast.Subscript,
    ast.Slice, ast.ListComp, ast.comprehension, ast.JoinedStr, ast.FormattedValue, ast.Name,
    ast.expr_context, ast.operator, ast.unaryop, ast.boolop, ast.cmpop)

PYTHONS_NAMES = (
    "len range enumerate zip min max sum abs sorted reversed int str bool list tuple dict set frozenset isinstance "
    "ord repr any all divmod Exception ValueError TypeError KeyError IndexError LookupError ZeroDivisionError "
    "ArithmeticError OverflowError RuntimeError NotImplementedError AttributeError StopIteration").split()

METHODS = (
    "append clear copy count endswith extend find get index insert isalnum isalpha isdigit islower isspace isupper "
    "items join keys ljust lower lstrip partition pop remove replace reverse rfind rjust rpartition rsplit rstrip "
    "setdefault split splitlines startswith strip update upper values zfill bit_length").split()

FORBIDDEN_WORDS = re.compile(
    r"\b(type|typing|typing_extensions|enum|Enum|IntEnum|StrEnum|Flag|IntFlag|Generic|Protocol|ABC|ABCMeta"
    r"|namedtuple|NamedTuple|TypedDict|TYPE_CHECKING|abstractmethod)\b|dataclass|overload|contextmanager")


def files():
    return sorted(path for path in PACKAGE.rglob("*") if path.is_file() and "__pycache__" not in path.parts)


def nodes(path):
    return list(ast.walk(ast.parse(path.read_text())))


def bound_names(tree_nodes):
    """All names that the file binds, in whatever place."""
    found = set()
    for node in tree_nodes:
        if isinstance(node, ast.Name) and isinstance(node.ctx, ast.Store):
            found.add(node.id)
        elif isinstance(node, (ast.FunctionDef, ast.ClassDef)):
            found.add(node.name)
        elif isinstance(node, ast.arg):
            found.add(node.arg)
        elif isinstance(node, ast.alias):
            found.add(node.name)
    return found


def is_plain_value(node):
    """A whole number, a text, True, False or None; not a list, a tuple or a name."""
    if isinstance(node, ast.UnaryOp) and isinstance(node.op, ast.USub):
        return isinstance(node.operand, ast.Constant) and type(node.operand.value) is int
    return isinstance(node, ast.Constant) and (node.value is None or type(node.value) in (int, str, bool))


def lines_of_odd_defaults(tree_nodes):
    """Where a default of a def or a lambda, in whatever place, is not a plain value."""
    defaults = []
    for node in tree_nodes:
        if isinstance(node, ast.arguments):
            defaults += node.defaults + [default for default in node.kw_defaults if default is not None]
    return sorted(default.lineno for default in defaults if not is_plain_value(default))


class Defaults(unittest.TestCase):
    def odd(self, text):
        return lines_of_odd_defaults(ast.walk(ast.parse(text)))

    def test_of_the_package(self):
        for path in files():
            self.assertEqual(lines_of_odd_defaults(nodes(path)), [], path.name)

    def test_others_are_found(self):
        for odd in ("()", "(1,)", "[]", "[1]", "{}", "{1: 2}", "{1}", "READ", "list()", "1.5", "b''", "...", "-x",
                    "1 + 1", "not True", "f''", "a.b", "lambda: 1"):
            self.assertEqual(self.odd(f"def act(a, b={odd}):\n    pass"), [1], odd)
            self.assertEqual(self.odd(f"kept = lambda a={odd}: a"), [1], odd)

    def test_in_every_place(self):
        self.assertEqual(self.odd("class Kept:\n    def __init__(self, listed=(), text=()):\n        pass"), [2, 2])
        self.assertEqual(self.odd("def outer():\n    def inner(a, b=()):\n        pass"), [2])
        self.assertEqual(self.odd("def act(a, *, b=()):\n    pass"), [1])

    def test_plain_values_are_left(self):
        self.assertEqual(self.odd("def act(a, b=0, c=-1, d='', e=True, f=False, g=None):\n    pass"), [])


class Language(unittest.TestCase):
    def test_files(self):
        self.assertTrue(files())
        for path in files():
            self.assertRegex(path.name, r"\A[a-z_0-9]+\.py\Z")
            text = path.read_bytes().decode("ascii")
            self.assertFalse([sign for sign in text if not (" " <= sign <= "~" or sign == "\n")], path.name)
            self.assertFalse(FORBIDDEN_WORDS.search(text), path.name)

    def test_sizes(self):
        for path in files():
            lines = path.read_text().split("\n")
            self.assertLessEqual(len(lines), 400, path.name)
            self.assertLessEqual(max(len(line) for line in lines), 120, path.name)
            for node in nodes(path):
                if isinstance(node, ast.FunctionDef):
                    self.assertLessEqual(node.end_lineno - node.lineno + 1, 40, node.name)

    def test_statements_and_expressions(self):
        for path in files():
            for node in nodes(path):
                place = (path.name, getattr(node, "lineno", None), ast.dump(node)[:80])
                self.assertIsInstance(node, ALLOWED_NODES, place)
                self.assertNotIsInstance(node, (ast.Div, ast.MatMult), place)
                if isinstance(node, ast.Assign):
                    self.assertEqual(len(node.targets), 1, place)
                    self.assertNotIsInstance(node.targets[0], (ast.Tuple, ast.List), place)
                if isinstance(node, (ast.For, ast.While)):
                    self.assertFalse(node.orelse, place)
                if isinstance(node, ast.Constant):
                    self.assertNotIsInstance(node.value, (float, complex, bytes, type(...)), place)
                if isinstance(node, ast.ListComp):
                    self.assertEqual(len(node.generators), 1, place)
                    self.assertLessEqual(len(node.generators[0].ifs), 1, place)
                if isinstance(node, ast.Pow):
                    self.fail(f"a power: {path.name}")

    def test_functions_and_classes(self):
        for path in files():
            for node in nodes(path):
                if isinstance(node, (ast.FunctionDef, ast.ClassDef)):
                    self.assertFalse(node.decorator_list, node.name)
                if isinstance(node, ast.arguments):
                    self.assertFalse(node.vararg or node.kwarg or node.kwonlyargs or node.posonlyargs, path.name)
                    self.assertFalse([arg for arg in node.args if arg.annotation], path.name)

    def test_imports(self):
        for path in files():
            for node in ast.parse(path.read_text()).body:
                if isinstance(node, ast.ImportFrom):
                    self.assertEqual(node.level, 0)
                    self.assertTrue(node.module.startswith("bloodlines."), path.name)
                    origin = PACKAGE / (node.module.split(".")[1] + ".py")
                    top = [item for item in ast.parse(origin.read_text()).body if not isinstance(item, ast.ImportFrom)]
                    defined = {item.name for item in top if hasattr(item, "name")}
                    defined |= {item.targets[0].id for item in top if isinstance(item, ast.Assign)}
                    self.assertLessEqual({alias.name for alias in node.names}, defined, path.name)
            inner = [node for node in nodes(path) if isinstance(node, (ast.Import, ast.ImportFrom))]
            top = [node for node in ast.parse(path.read_text()).body if isinstance(node, (ast.Import, ast.ImportFrom))]
            self.assertEqual(len(inner), len(top), path.name)

    def test_names(self):
        for path in files():
            tree_nodes = nodes(path)
            bound = bound_names(tree_nodes)
            for name in bound - {"__init__"}:
                self.assertRegex(name, r"\A[A-Za-z][A-Za-z0-9_]*\Z")
                self.assertNotIn(name, dir(__builtins__) if not isinstance(__builtins__, dict) else __builtins__)
            for node in tree_nodes:
                if isinstance(node, ast.Name):
                    self.assertIn(node.id, bound | set(PYTHONS_NAMES), path.name)

    def test_no_local_is_called_like_a_class_or_an_import(self):
        for path in files():
            taken = set()
            local = set()
            for node in nodes(path):
                if isinstance(node, ast.ClassDef):
                    taken.add(node.name)
                elif isinstance(node, ast.ImportFrom):
                    taken |= {alias.name for alias in node.names}
                elif isinstance(node, ast.arg):
                    local.add(node.arg)
                elif isinstance(node, ast.Name) and isinstance(node.ctx, ast.Store):
                    local.add(node.id)
            self.assertFalse(taken & local, path.name)

    def test_each_name_of_a_file_is_bound_once(self):
        for path in files():
            found = []
            for item in ast.parse(path.read_text()).body:
                if isinstance(item, ast.Assign):
                    found.append(item.targets[0].id)
                elif isinstance(item, (ast.FunctionDef, ast.ClassDef)):
                    found.append(item.name)
                elif isinstance(item, ast.ImportFrom):
                    found += [alias.name for alias in item.names]
            self.assertEqual(len(found), len(set(found)), path.name)

    def test_methods(self):
        own = set()
        for path in files():
            for node in nodes(path):
                if isinstance(node, ast.ClassDef):
                    own |= {item.name for item in node.body if isinstance(item, ast.FunctionDef)}
        for path in files():
            for node in nodes(path):
                if isinstance(node, ast.Call) and isinstance(node.func, ast.Attribute):
                    self.assertIn(node.func.attr, own | set(METHODS), path.name)


if __name__ == "__main__":
    unittest.main()
