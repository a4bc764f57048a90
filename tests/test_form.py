"""Holds the package's files to those rules of the language document that can be seen in the code."""

import ast
import builtins
import re
import unittest
from pathlib import Path

PACKAGE = Path(__file__).resolve().parent.parent / "scriberow"

OWN_NAMES = set(
    "len range enumerate zip min max sum abs sorted reversed int str bool list tuple dict set frozenset isinstance ord "
    "repr any all divmod Exception ValueError TypeError KeyError IndexError LookupError ZeroDivisionError "
    "ArithmeticError OverflowError RuntimeError NotImplementedError AttributeError StopIteration".split()
)
OWN_METHODS = set(
    "append clear copy count endswith extend find get index insert isalnum isalpha isdigit islower isspace isupper "
    "items join keys ljust lower lstrip partition pop remove replace reverse rfind rjust rpartition rsplit rstrip "
    "setdefault split splitlines startswith strip update upper values zfill bit_length".split()
)
DUNDER_METHODS = {"__init__", "__eq__", "__repr__", "__str__", "__len__"}
WALKED_AT_ONCE = {"zip", "enumerate", "reversed", "range", "items", "keys", "values"}
WORDS_NOWHERE = re.compile(
    r"\b(type|typing|typing_extensions|enum|Enum|IntEnum|StrEnum|Flag|IntFlag|Generic|Protocol|ABC|ABCMeta|namedtuple"
    r"|NamedTuple|TypedDict|TYPE_CHECKING|abstractmethod)\b|dataclass|overload|contextmanager"
)
NAMES_NOWHERE = set(
    "register mro elements open input version_info with_traceback add_note format format_map attrgetter breakpoint "
    "builtins compile copyright credits delattr dir eval exec exit gc getattr globals hasattr help id importlib "
    "license locals methodcaller os quit setattr super vars sys".split()
)
NODES = (
    ast.Module, ast.ImportFrom, ast.alias, ast.FunctionDef, ast.arguments, ast.arg, ast.Lambda, ast.ClassDef,
    ast.Assign, ast.AugAssign, ast.If, ast.While, ast.For, ast.Return, ast.Break, ast.Continue, ast.Pass, ast.Raise,
    ast.Try, ast.ExceptHandler, ast.Expr, ast.Constant, ast.Name, ast.Attribute, ast.Subscript, ast.Slice, ast.List,
    ast.Tuple, ast.Dict, ast.Set, ast.BinOp, ast.UnaryOp, ast.BoolOp, ast.Compare, ast.IfExp, ast.Call, ast.keyword,
    ast.ListComp, ast.comprehension, ast.JoinedStr, ast.FormattedValue, ast.expr_context, ast.operator, ast.unaryop,
    ast.boolop, ast.cmpop,
)


def package_files():
    return sorted(path for path in PACKAGE.rglob("*") if path.is_file() and "__pycache__" not in path.parts)


def trees():
    return [(path, ast.parse(path.read_text(encoding="utf-8"))) for path in package_files()]


def nodes_of(kind):
    return [(f"{path.name}:{node.lineno}", node) for path, tree in trees() for node in ast.walk(tree) if isinstance(node, kind)]


def bound_names(node):
    """The names that a node brings, with those of its attributes."""
    if isinstance(node, ast.Name):
        return [node.id]
    if isinstance(node, ast.Attribute):
        return [node.attr]
    if isinstance(node, ast.arg):
        return [node.arg]
    if isinstance(node, (ast.FunctionDef, ast.ClassDef)):
        return [node.name]
    if isinstance(node, ast.Assign):
        return [name for target in node.targets for name in bound_names(target)]
    return []


class Files(unittest.TestCase):
    def test_plain_files_alone(self):
        self.assertIn(PACKAGE / "__init__.py", package_files())
        for path in package_files():
            self.assertRegex(path.name, r"\A(__init__|__main__|[a-z][a-z0-9_]*)\.py\Z")

    def test_signs_and_sizes(self):
        for path in package_files():
            text = path.read_bytes()
            self.assertTrue(all(sign == 10 or 32 <= sign <= 126 for sign in text), path.name)
            lines = text.decode().split("\n")
            self.assertLessEqual(len(lines), 400, path.name)
            self.assertLessEqual(max(map(len, lines)), 120, path.name)

    def test_functions_are_short(self):
        for where, node in nodes_of(ast.FunctionDef):
            self.assertLessEqual(node.end_lineno - node.lineno + 1, 40, where)

    def test_words_that_stand_nowhere(self):
        for path in package_files():
            self.assertIsNone(WORDS_NOWHERE.search(path.read_text()), path.name)


class Imports(unittest.TestCase):
    def test_own_modules_by_their_full_names(self):
        for where, node in nodes_of(ast.ImportFrom):
            self.assertEqual(node.level, 0, where)
            self.assertRegex(node.module, r"\Ascriberow\.[a-z_]+\Z", where)
            self.assertTrue(all(alias.name != "*" for alias in node.names), where)

    def test_a_name_is_drawn_from_the_file_that_defines_it(self):
        defined = {f"scriberow.{path.stem}": {name for node in tree.body for name in bound_names(node)} for path, tree in trees()}
        for where, node in nodes_of(ast.ImportFrom):
            for alias in node.names:
                self.assertIn(alias.name, defined[node.module], where)

    def test_no_two_files_draw_from_one_another(self):
        left = {
            f"scriberow.{path.stem}": {node.module for node in tree.body if isinstance(node, ast.ImportFrom)}
            for path, tree in trees()
        }
        self.assertEqual(left["scriberow.__init__"], set())
        while left:
            free = {name for name, drawn in left.items() if not drawn & set(left)}
            self.assertTrue(free, f"drawn from one another: {sorted(left)}")
            left = {name: drawn for name, drawn in left.items() if name not in free}


class Code(unittest.TestCase):
    def test_kinds_of_code(self):
        for path, tree in trees():
            for node in ast.walk(tree):
                self.assertIsInstance(node, NODES, f"{path.name}:{getattr(node, 'lineno', 0)}")

    def test_top_of_a_module(self):
        for path, tree in trees():
            self.assertTrue(ast.get_docstring(tree), path.name)
            for node in tree.body[1:]:
                self.assertIsInstance(node, (ast.ImportFrom, ast.FunctionDef, ast.ClassDef, ast.Assign), path.name)
            names = [name for node in tree.body for name in bound_names(node)]
            self.assertEqual(len(names), len(set(names)), path.name)

    def test_functions_and_classes(self):
        for where, node in nodes_of((ast.FunctionDef, ast.Lambda)):
            args = node.args
            self.assertFalse(args.vararg or args.kwarg or args.kwonlyargs or args.posonlyargs, where)
            self.assertFalse(getattr(node, "decorator_list", []), where)
        for where, node in nodes_of(ast.ClassDef):
            self.assertFalse(node.decorator_list or node.keywords or len(node.bases) > 1, where)
            self.assertTrue(all(isinstance(part, (ast.FunctionDef, ast.Pass)) for part in node.body), where)

    def test_statements(self):
        for where, node in nodes_of(ast.Assign):
            self.assertEqual(len(node.targets), 1, where)
        for where, node in nodes_of((ast.For, ast.While)):
            self.assertEqual(node.orelse, [], where)
        for where, node in nodes_of(ast.Try):
            self.assertEqual(node.finalbody, [], where)
        for where, node in nodes_of(ast.Expr):
            self.assertTrue(isinstance(node.value, ast.Call) or where.endswith(":1"), where)

    def test_values(self):
        for where, node in nodes_of(ast.Constant):
            self.assertTrue(node.value is None or isinstance(node.value, (bool, int, str)), where)
            self.assertFalse(isinstance(node.value, str) and "%" in node.value, where)
        for where, node in nodes_of((ast.BinOp, ast.AugAssign)):
            self.assertNotIsInstance(node.op, (ast.Div, ast.MatMult), where)
        for where, node in nodes_of(ast.ListComp):
            self.assertEqual(len(node.generators), 1, where)
            self.assertLessEqual(len(node.generators[0].ifs), 1, where)
        for where, node in nodes_of(ast.Compare):
            if any(isinstance(op, (ast.Is, ast.IsNot)) for op in node.ops):
                self.assertIsInstance(node.comparators[-1], ast.Constant, where)

    def test_names(self):
        python_names = set(dir(builtins))
        for path, tree in trees():
            for node in ast.walk(tree):
                for name in bound_names(node):
                    where = f"{path.name}:{node.lineno}: {name}"
                    self.assertNotIn(name, NAMES_NOWHERE, where)
                    self.assertTrue(re.match(r"[A-Za-z]\w*\Z", name, re.ASCII) or name in DUNDER_METHODS, where)
                if isinstance(node, ast.Name) and node.id in python_names:
                    self.assertIn(node.id, OWN_NAMES, f"{path.name}:{node.lineno}")
                    self.assertIsInstance(node.ctx, ast.Load, f"{path.name}:{node.lineno}")
                if isinstance(node, ast.arg):
                    self.assertNotIn(node.arg, python_names, f"{path.name}:{node.lineno}")

    def test_methods(self):
        own = {part.name for _, node in nodes_of(ast.ClassDef) for part in node.body if isinstance(part, ast.FunctionDef)}
        kept = {node.attr for _, node in nodes_of(ast.Attribute) if isinstance(node.ctx, ast.Store)}
        self.assertEqual(own & kept, set())
        for where, node in nodes_of(ast.Call):
            if isinstance(node.func, ast.Attribute):
                self.assertIn(node.func.attr, OWN_METHODS | own, where)

    def test_what_is_walked_at_once_is_not_kept(self):
        for where, node in nodes_of((ast.Assign, ast.Return)):
            if isinstance(node.value, ast.Call):
                self.assertFalse(WALKED_AT_ONCE & set(bound_names(node.value.func)), where)

    def test_sets_are_not_kept(self):
        for where, node in nodes_of((ast.Assign, ast.Return, ast.For)):
            value = node.iter if isinstance(node, ast.For) else node.value
            self.assertNotIsInstance(value, ast.Set, where)
            if isinstance(value, ast.Call):
                self.assertFalse({"set", "frozenset"} & set(bound_names(value.func)), where)


if __name__ == "__main__":
    unittest.main()
