"""Holds the package's files to those rules of the language document that can be seen in the code."""

import ast
import builtins
import functools
import re
import unittest
from pathlib import Path

PACKAGE = Path(__file__).resolve().parent.parent / "scriberow"

OWN_NAMES = set(
    "len range enumerate zip min max sum abs sorted reversed int str bool list tuple dict set frozenset isinstance ord "
    "repr any all divmod Exception ValueError TypeError KeyError IndexError LookupError ZeroDivisionError "
    "ArithmeticError OverflowError RuntimeError NotImplementedError AttributeError StopIteration".split()
)
OWN_METHODS = set(
    "append clear copy count endswith extend find get index insert isalnum isalpha isdigit islower isspace isupper "
    "items join keys ljust lower lstrip partition pop remove replace reverse rfind rjust rpartition rsplit rstrip "
    "setdefault split splitlines startswith strip update upper values zfill bit_length".split()
)
CHANGING_METHODS = set("append clear extend insert pop remove reverse setdefault update".split())
PYTHONS_OWN = {name for kind in (str, int, list, tuple, dict, set, frozenset, bytes) for name in dir(kind)}
VALUES_TOO = set("count index title find get join lower upper split strip copy add".split())
KEYWORDS = {
    "sorted": {"key", "reverse"}, "min": {"key", "default"}, "max": {"key", "default"}, "sum": {"start"},
    "enumerate": {"start"}, "zip": {"strict"},
}
WALKERS = set("list tuple dict sorted sum any all enumerate zip".split())
ERRORS_TAKEN_FREELY = {"KeyError", "ZeroDivisionError", "StopIteration"}
DUNDER_METHODS = {"__init__", "__eq__", "__repr__", "__str__", "__len__"}
WALKED_AT_ONCE = {"zip", "enumerate", "reversed", "range", "items", "keys", "values"}
WORDS_NOWHERE = re.compile(
    r"\b(type|typing|typing_extensions|enum|Enum|IntEnum|StrEnum|Flag|IntFlag|Generic|Protocol|ABC|ABCMeta|namedtuple"
    r"|NamedTuple|TypedDict|TYPE_CHECKING|abstractmethod)\b|dataclass|overload|contextmanager"
)
NAMES_NOWHERE = set(
    "register mro elements open input version_info with_traceback add_note format format_map attrgetter breakpoint "
    "builtins compile copyright credits delattr dir eval exec exit gc getattr globals hasattr help id importlib "
    "license locals methodcaller os quit setattr super vars sys".split()
)
NODES = (
    ast.Module, ast.ImportFrom, ast.alias, ast.FunctionDef, ast.arguments, ast.arg, ast.Lambda, ast.ClassDef,
    ast.Assign, ast.AugAssign, ast.If, ast.While, ast.For, ast.Return, ast.Break, ast.Continue, ast.Pass, ast.Raise,
    ast.Try, ast.ExceptHandler, ast.Expr, ast.Constant, ast.Name, ast.Attribute, ast.Subscript, ast.Slice, ast.List,
    ast.Tuple, ast.Dict, ast.Set, ast.BinOp, ast.UnaryOp, ast.BoolOp, ast.Compare, ast.IfExp, ast.Call, ast.keyword,
    ast.ListComp, ast.comprehension, ast.JoinedStr, ast.FormattedValue, ast.expr_context, ast.operator, ast.unaryop,
    ast.boolop, ast.cmpop,
)


def package_files():
    return sorted(path for path in PACKAGE.rglob("*") if path.is_file() and "__pycache__" not in path.parts)


@functools.cache
def trees():
    return [(path, ast.parse(path.read_text(encoding="utf-8"))) for path in package_files()]


def nodes_of(kind):
    return [(f"{path.name}:{node.lineno}", node) for path, tree in trees() for node in ast.walk(tree) if isinstance(node, kind)]


def around(kind):
    """Each node of the kind with where it stands and the node that it stands in."""
    found = []
    for path, tree in trees():
        for outer in ast.walk(tree):
            for node in ast.iter_child_nodes(outer):
                if isinstance(node, kind):
                    found.append((f"{path.name}:{node.lineno}", node, outer))
    return found


def called_name(node):
    return node.func.id if isinstance(node, ast.Call) and isinstance(node.func, ast.Name) else None


@functools.cache
def own_methods():
    return {part.name for _, node in nodes_of(ast.ClassDef) for part in node.body if isinstance(part, ast.FunctionDef)}


@functools.cache
def own_values():
    return {node.attr for _, node in nodes_of(ast.Attribute) if isinstance(node.ctx, ast.Store)}


@functools.cache
def own_classes():
    return {node.name for _, node in nodes_of(ast.ClassDef)}


def bound_names(node):
    """The names that a node brings, with those of its attributes."""
    if isinstance(node, ast.Name):
        return [node.id]
    if isinstance(node, ast.Attribute):
        return [node.attr]
    if isinstance(node, ast.arg):
        return [node.arg]
    if isinstance(node, (ast.FunctionDef, ast.ClassDef)):
        return [node.name]
    if isinstance(node, ast.Assign):
        return [name for target in node.targets for name in bound_names(target)]
    return []


class Files(unittest.TestCase):
    def test_plain_files_alone(self):
        self.assertIn(PACKAGE / "__init__.py", package_files())
        for path in package_files():
            self.assertRegex(path.name, r"\A(__init__|__main__|[a-z][a-z0-9_]*)\.py\Z")

    def test_signs_and_sizes(self):
        for path in package_files():
            text = path.read_bytes()
            self.assertTrue(all(sign == 10 or 32 <= sign <= 126 for sign in text), path.name)
            lines = text.decode().split("\n")
            self.assertLessEqual(len(lines), 400, path.name)
            self.assertLessEqual(max(map(len, lines)), 120, path.name)

    def test_functions_are_short(self):
        for where, node in nodes_of(ast.FunctionDef):
            self.assertLessEqual(node.end_lineno - node.lineno + 1, 40, where)

    def test_words_that_stand_nowhere(self):
        for path in package_files():
            self.assertIsNone(WORDS_NOWHERE.search(path.read_text()), path.name)


class Imports(unittest.TestCase):
    def test_own_modules_by_their_full_names(self):
        for where, node in nodes_of(ast.ImportFrom):
            self.assertEqual(node.level, 0, where)
            self.assertRegex(node.module, r"\Ascriberow\.[a-z_]+\Z", where)
            self.assertTrue(all(alias.name != "*" for alias in node.names), where)

    def test_a_name_is_drawn_from_the_file_that_defines_it(self):
        defined = {f"scriberow.{path.stem}": {name for node in tree.body for name in bound_names(node)} for path, tree in trees()}
        for where, node in nodes_of(ast.ImportFrom):
            for alias in node.names:
                self.assertIn(alias.name, defined[node.module], where)

    def test_no_two_files_draw_from_one_another(self):
        left = {
            f"scriberow.{path.stem}": {node.module for node in tree.body if isinstance(node, ast.ImportFrom)}
            for path, tree in trees()
        }
        self.assertEqual(left["scriberow.__init__"], set())
        while left:
            free = {name for name, drawn in left.items() if not drawn & set(left)}
            self.assertTrue(free, f"drawn from one another: {sorted(left)}")
            left = {name: drawn for name, drawn in left.items() if name not in free}


class Code(unittest.TestCase):
    def test_kinds_of_code(self):
        for path, tree in trees():
            for node in ast.walk(tree):
                self.assertIsInstance(node, NODES, f"{path.name}:{getattr(node, 'lineno', 0)}")

    def test_top_of_a_module(self):
        for path, tree in trees():
            self.assertTrue(ast.get_docstring(tree), path.name)
            for node in tree.body[1:]:
                self.assertIsInstance(node, (ast.ImportFrom, ast.FunctionDef, ast.ClassDef, ast.Assign), path.name)
            names = [name for node in tree.body for name in bound_names(node)]
            self.assertEqual(len(names), len(set(names)), path.name)

    def test_functions_and_classes(self):
        for where, node in nodes_of((ast.FunctionDef, ast.Lambda)):
            args = node.args
            self.assertFalse(args.vararg or args.kwarg or args.kwonlyargs or args.posonlyargs, where)
            self.assertFalse(getattr(node, "decorator_list", []), where)
        for where, node in nodes_of(ast.ClassDef):
            self.assertFalse(node.decorator_list or node.keywords or len(node.bases) > 1, where)
            self.assertTrue(all(isinstance(part, (ast.FunctionDef, ast.Pass)) for part in node.body), where)

    def test_statements(self):
        for where, node in nodes_of(ast.Assign):
            self.assertEqual(len(node.targets), 1, where)
        for where, node in nodes_of((ast.For, ast.While)):
            self.assertEqual(node.orelse, [], where)
        for where, node in nodes_of(ast.Try):
            self.assertEqual(node.finalbody, [], where)
        for where, node in nodes_of(ast.Expr):
            self.assertTrue(isinstance(node.value, ast.Call) or where.endswith(":1"), where)

    def test_values(self):
        for where, node in nodes_of(ast.Constant):
            self.assertTrue(node.value is None or isinstance(node.value, (bool, int, str)), where)
            self.assertFalse(isinstance(node.value, str) and "%" in node.value, where)
        for where, node in nodes_of((ast.BinOp, ast.AugAssign)):
            self.assertNotIsInstance(node.op, (ast.Div, ast.MatMult), where)
        for where, node in nodes_of(ast.ListComp):
            self.assertEqual(len(node.generators), 1, where)
            self.assertLessEqual(len(node.generators[0].ifs), 1, where)
        for where, node in nodes_of(ast.Compare):
            if any(isinstance(op, (ast.Is, ast.IsNot)) for op in node.ops):
                self.assertTrue(any(node.comparators[-1].value is value for value in (None, True, False)), where)

    def test_names(self):
        python_names = set(dir(builtins))
        for path, tree in trees():
            for node in ast.walk(tree):
                for name in bound_names(node):
                    where = f"{path.name}:{node.lineno}: {name}"
                    self.assertNotIn(name, NAMES_NOWHERE, where)
                    self.assertTrue(re.match(r"[A-Za-z]\w*\Z", name, re.ASCII) or name in DUNDER_METHODS, where)
                if isinstance(node, ast.Name) and node.id in python_names:
                    self.assertIn(node.id, OWN_NAMES, f"{path.name}:{node.lineno}")
                    self.assertIsInstance(node.ctx, ast.Load, f"{path.name}:{node.lineno}")
                if isinstance(node, ast.arg):
                    self.assertNotIn(node.arg, python_names, f"{path.name}:{node.lineno}")

    def test_no_name_has_two_meanings_in_a_file(self):
        for path, tree in trees():
            taken = {alias.name for node in tree.body if isinstance(node, ast.ImportFrom) for alias in node.names}
            taken |= {node.name for node in tree.body if isinstance(node, ast.ClassDef)} | set(dir(builtins))
            for node in ast.walk(tree):
                if isinstance(node, ast.arg) or isinstance(node, ast.Name) and isinstance(node.ctx, ast.Store):
                    self.assertNotIn(bound_names(node)[0], taken, f"{path.name}:{node.lineno}")
            top = {name for node in tree.body for name in bound_names(node)}
            self.assertEqual(top & taken - own_classes(), set(), path.name)

    def test_the_top_of_a_file_keeps_plain_values_alone(self):
        for path, tree in trees():
            for node in tree.body:
                if isinstance(node, ast.Assign):
                    self.assertIsInstance(node.value, ast.Constant, f"{path.name}:{node.lineno}")

    def test_no_annotations(self):
        for where, node in nodes_of(ast.FunctionDef):
            self.assertIsNone(node.returns, where)
        for where, node in nodes_of(ast.arg):
            self.assertIsNone(node.annotation, where)

    def test_methods(self):
        own = own_methods()
        self.assertEqual(own & own_values(), set())
        for where, node in nodes_of(ast.Call):
            if isinstance(node.func, ast.Attribute):
                self.assertIn(node.func.attr, OWN_METHODS | own, where)
        for where, node, outer in around(ast.Attribute):
            if node.attr in OWN_METHODS - own_values() | own:
                self.assertTrue(isinstance(outer, ast.Call) and outer.func is node, where)

    def test_own_methods_and_values(self):
        free = DUNDER_METHODS | {"add", "discard"} | OWN_METHODS
        self.assertEqual(own_methods() & PYTHONS_OWN - free, set())
        self.assertEqual(own_values() & (PYTHONS_OWN | {"args"}) - VALUES_TOO, set())
        for where, node in nodes_of(ast.ClassDef):
            names = [part.name for part in node.body if isinstance(part, ast.FunctionDef)]
            self.assertEqual(len(names), len(set(names)), where)
            for part in node.body:
                if isinstance(part, ast.FunctionDef) and part.name == "__init__":
                    self.assertFalse(any(isinstance(inner, ast.Return) for inner in ast.walk(part)), where)

    def test_classes_are_called_or_stand_by_name(self):
        for where, node, outer in around(ast.Name):
            if node.id in own_classes():
                stands = isinstance(outer, (ast.ClassDef, ast.ExceptHandler)) or called_name(outer) == "isinstance"
                self.assertTrue(stands or isinstance(outer, ast.Call) and outer.func is node, where)

    def test_errors(self):
        for where, node in nodes_of(ast.ExceptHandler):
            self.assertIsInstance(node.type, ast.Name, where)
            self.assertIn(node.type.id, own_classes() | ERRORS_TAKEN_FREELY, where)
        for where, node in nodes_of(ast.Raise):
            self.assertIn(called_name(node.exc), own_classes(), where)

    def test_pythons_own_as_they_are_called(self):
        for where, node, outer in around(ast.Name):
            if node.id in OWN_NAMES and not isinstance(outer, (ast.ClassDef, ast.ExceptHandler, ast.keyword)):
                called = isinstance(outer, ast.Call) and outer.func is node
                self.assertTrue(called or called_name(outer) == "isinstance", where)
        for where, node in nodes_of(ast.Call):
            name = called_name(node)
            if name in OWN_NAMES or name is None:
                self.assertLessEqual({keyword.arg for keyword in node.keywords}, KEYWORDS.get(name, set()), where)

    def test_what_is_walked_at_once_is_not_kept(self):
        for where, node, outer in around(ast.Call):
            if not WALKED_AT_ONCE & set(bound_names(node.func)):
                continue
            name = called_name(outer)
            walked = isinstance(outer, (ast.For, ast.comprehension)) and outer.iter is node
            handed = name in WALKERS and outer.args[0] is node or name in ("min", "max") and outer.args == [node]
            joined = isinstance(outer, ast.Call) and ast.unparse(outer.func) in ("' '.join", "''.join")
            self.assertTrue(walked or handed or joined, where)

    def test_what_is_walked_is_not_changed(self):
        for where, node in nodes_of(ast.For):
            walked = {ast.unparse(part) for part in ast.walk(node.iter) if isinstance(part, (ast.Name, ast.Attribute))}
            for part in [inner for line in node.body for inner in ast.walk(line)]:
                if isinstance(part, ast.Subscript) and isinstance(part.ctx, ast.Store):
                    self.assertNotIn(ast.unparse(part.value), walked, where)
                if isinstance(part, ast.Call) and isinstance(part.func, ast.Attribute) and part.func.attr in CHANGING_METHODS:
                    self.assertNotIn(ast.unparse(part.func.value), walked, where)

    def test_numbers_and_texts(self):
        for where, node in nodes_of(ast.FormattedValue):
            self.assertIsInstance(node.value, ast.Name, where)
            self.assertIsNone(node.format_spec, where)
            self.assertIn(node.conversion, (-1, ord("r")), where)
        for where, node in nodes_of((ast.BinOp, ast.AugAssign)):
            self.assertFalse(isinstance(node.op, ast.Pow), where)
        for path in package_files():
            self.assertNotRegex(path.read_text(), r"\\[^nt\\\"']")
            self.assertNotRegex(path.read_text(), r"[0-9]{900}")

    def test_sets_are_not_kept(self):
        for where, node in nodes_of((ast.Assign, ast.Return, ast.For)):
            value = node.iter if isinstance(node, ast.For) else node.value
            self.assertNotIsInstance(value, ast.Set, where)
            if isinstance(value, ast.Call):
                self.assertFalse({"set", "frozenset"} & set(bound_names(value.func)), where)


if __name__ == "__main__":
    unittest.main()
