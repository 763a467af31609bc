"""The package keeps to its small part of Python (L1 to L28), as far as its form shows it."""

import ast
import builtins
import pathlib
import re
import unittest

PACKAGE = pathlib.Path(__file__).resolve().parent.parent / "storejudge"

ERRORS = {
    "Exception", "ValueError", "TypeError", "KeyError", "IndexError", "LookupError", "ZeroDivisionError",
    "ArithmeticError", "OverflowError", "RuntimeError", "NotImplementedError", "AttributeError", "StopIteration",
}
BUILTINS = ERRORS | {
    "len", "range", "enumerate", "zip", "min", "max", "sum", "abs", "sorted", "reversed", "int", "str", "bool", "list",
    "tuple", "dict", "set", "frozenset", "isinstance", "ord", "repr", "any", "all", "divmod",
}
METHODS = set(
    "append clear copy count endswith extend find get index insert isalnum isalpha isdigit islower isspace isupper "
    "items join keys ljust lower lstrip partition pop remove replace reverse rfind rjust rpartition rsplit rstrip "
    "setdefault split splitlines startswith strip update upper values zfill bit_length".split()
)
NODES = (
    ast.Module, ast.FunctionDef, ast.ClassDef, ast.arguments, ast.arg, ast.ImportFrom, ast.alias, ast.Expr, ast.Assign,
    ast.AugAssign, ast.If, ast.While, ast.For, ast.Return, ast.Break, ast.Continue, ast.Pass, ast.Raise, ast.Try,
    ast.ExceptHandler, ast.Constant, ast.JoinedStr, ast.FormattedValue, ast.List, ast.Tuple, ast.Dict, ast.Set,
    ast.Name, ast.Attribute, ast.Subscript, ast.Slice, ast.Call, ast.keyword, ast.BinOp, ast.UnaryOp, ast.BoolOp,
    ast.Compare, ast.IfExp, ast.ListComp, ast.comprehension, ast.Lambda, ast.expr_context, ast.operator, ast.unaryop,
    ast.boolop, ast.cmpop,
)
BANNED_WORDS = re.compile(
    r"\b(type|typing|typing_extensions|enum|Enum|IntEnum|StrEnum|Flag|IntFlag|Generic|Protocol|ABC|ABCMeta|namedtuple|"
    r"NamedTuple|TypedDict|TYPE_CHECKING|abstractmethod)\b|dataclass|overload|contextmanager"
)
BANNED_NAMES = {"register", "mro", "elements", "open", "input", "version_info", "with_traceback", "add_note"}
DUNDERS = {"__init__", "__eq__", "__repr__", "__str__", "__len__"}
CHANGES = {"append", "clear", "extend", "insert", "pop", "remove", "reverse", "setdefault", "update"}
LAZY = {"zip", "enumerate", "reversed", "range", "items", "keys", "values"}
WALKERS = {"list", "tuple", "dict", "sorted", "sum", "any", "all", "enumerate", "zip", "min", "max"}


def files():
    return sorted(PACKAGE.glob("*.py"))


def trees():
    return [(path.name, ast.parse(path.read_text())) for path in files()]


def called(node):
    """The name that a call calls, as a function or a method."""
    if isinstance(node.func, ast.Attribute):
        return node.func.attr
    return node.func.id if isinstance(node.func, ast.Name) else None


def bound_names(tree):
    for node in ast.walk(tree):
        if isinstance(node, ast.Name) and isinstance(node.ctx, ast.Store):
            yield node.id
        elif isinstance(node, ast.arg):
            yield node.arg
        elif isinstance(node, (ast.FunctionDef, ast.ClassDef)):
            yield node.name
        elif isinstance(node, ast.ExceptHandler) and node.name:
            yield node.name


class Files(unittest.TestCase):
    def test_only_plain_files(self):
        for path in PACKAGE.iterdir():
            if path.name != "__pycache__":
                self.assertRegex(path.name, r"^([a-z][a-z0-9_]*|__init__|__main__)\.py$")
                self.assertFalse(hasattr(builtins, path.stem.strip("_")), path.name)

    def test_size_and_signs(self):
        for path in files():
            text = path.read_bytes().decode("ascii")
            rows = text.split("\n")
            self.assertLessEqual(len(rows), 401, path.name)
            for number, row in enumerate(rows, start=1):
                self.assertLessEqual(len(row), 120, (path.name, number))
                self.assertRegex(row, r"^[ -~]*$", (path.name, number))
                self.assertIsNone(BANNED_WORDS.search(row), (path.name, number))

    def test_functions_are_short(self):
        for name, tree in trees():
            for node in ast.walk(tree):
                if isinstance(node, ast.FunctionDef):
                    self.assertLessEqual(node.end_lineno - node.lineno + 1, 40, (name, node.name))


class Forms(unittest.TestCase):
    def test_only_these_forms(self):
        for name, tree in trees():
            for node in ast.walk(tree):
                where = (name, getattr(node, "lineno", 0), type(node).__name__)
                self.assertIsInstance(node, NODES, where)
                if isinstance(node, ast.Constant):
                    self.assertIn(type(node.value), (int, str, bool, type(None)), where)
                if isinstance(node, ast.Assign):
                    self.assertEqual(len(node.targets), 1, where)
                    self.assertNotIsInstance(node.targets[0], (ast.Tuple, ast.List), where)
                if isinstance(node, ast.BinOp):
                    self.assertNotIsInstance(node.op, (ast.Div, ast.MatMult), where)
                if isinstance(node, ast.ListComp):
                    self.assertEqual(len(node.generators), 1, where)
                    self.assertLessEqual(len(node.generators[0].ifs), 1, where)
                if isinstance(node, (ast.For, ast.While, ast.Try)):
                    self.assertFalse(node.orelse and not isinstance(node, ast.Try), where)
                if isinstance(node, ast.Try):
                    self.assertFalse(node.finalbody, where)

    def test_parameters_and_decorators(self):
        for name, tree in trees():
            for node in ast.walk(tree):
                if isinstance(node, (ast.FunctionDef, ast.ClassDef)):
                    self.assertEqual(node.decorator_list, [], (name, node.name))
                if isinstance(node, ast.arguments):
                    self.assertEqual((node.vararg, node.kwarg, node.kwonlyargs, node.posonlyargs), (None, None, [], []))

    def test_the_top_of_a_file(self):
        for name, tree in trees():
            bound = []
            for place, node in enumerate(tree.body):
                where = (name, node.lineno)
                if isinstance(node, ast.Expr):
                    self.assertTrue(place == 0 and isinstance(node.value, ast.Constant), where)
                else:
                    self.assertIsInstance(node, (ast.ImportFrom, ast.FunctionDef, ast.ClassDef, ast.Assign), where)
                if isinstance(node, ast.Assign):
                    self.assertFalse([part for part in ast.walk(node.value) if isinstance(part, ast.Call)], where)
                    bound.append(node.targets[0].id)
                elif isinstance(node, ast.ImportFrom):
                    bound.extend([alias.asname or alias.name for alias in node.names])
                elif isinstance(node, (ast.FunctionDef, ast.ClassDef)):
                    bound.append(node.name)
            self.assertEqual(len(bound), len(set(bound)), name)

    def test_is_stands_beside_none_true_false(self):
        for name, tree in trees():
            for node in ast.walk(tree):
                if isinstance(node, ast.Compare) and any(isinstance(op, (ast.Is, ast.IsNot)) for op in node.ops):
                    self.assertIsInstance(node.comparators[-1], ast.Constant, (name, node.lineno))

    def test_lazy_things_are_walked_at_once(self):
        for name, tree in trees():
            walked = set()
            for node in ast.walk(tree):
                if isinstance(node, (ast.For, ast.comprehension)):
                    walked.add(node.iter)
                if isinstance(node, ast.Call) and called(node) in WALKERS:
                    walked.update(node.args)
            for node in ast.walk(tree):
                if isinstance(node, ast.Call) and called(node) in LAZY:
                    self.assertIn(node, walked, (name, node.lineno))

    def test_sets_are_not_kept(self):
        for name, tree in trees():
            right = set()
            for node in ast.walk(tree):
                if isinstance(node, ast.Call) and called(node) in ("sorted", "len"):
                    right.update(node.args)
                if isinstance(node, ast.Compare):
                    right.update([node.left] + node.comparators)
            for node in ast.walk(tree):
                if isinstance(node, ast.Call) and called(node) in ("set", "frozenset") or isinstance(node, ast.Set):
                    self.assertIn(node, right, (name, node.lineno))


READING = {"len", "list", "dict", "tuple", "sorted", "sum", "min", "max", "any", "all", "enumerate", "zip"}
READING_METHODS = {"get", "items", "keys", "values", "index", "count", "copy"}


def kept_at_the_top():
    """The names of all lists and dicts of files' tops."""
    return {
        node.targets[0].id for _, tree in trees() for node in tree.body
        if isinstance(node, ast.Assign) and isinstance(node.value, (ast.List, ast.Dict))
    }


def is_read_only(parent, node):
    if isinstance(parent, ast.Subscript):
        return parent.value is node and isinstance(parent.ctx, ast.Load)
    if isinstance(parent, ast.Call):
        return node in parent.args and isinstance(parent.func, ast.Name) and parent.func.id in READING
    if isinstance(parent, ast.Attribute):
        return parent.attr in READING_METHODS
    if isinstance(parent, (ast.For, ast.comprehension)):
        return parent.iter is node
    return isinstance(parent, ast.Compare)


class Kept(unittest.TestCase):
    def test_lists_and_dicts_of_the_top_are_only_read(self):
        kept = kept_at_the_top()
        self.assertTrue(kept)
        for name, tree in trees():
            parents = {child: node for node in ast.walk(tree) for child in ast.iter_child_nodes(node)}
            for node, parent in parents.items():
                if isinstance(node, ast.Name) and node.id in kept and isinstance(node.ctx, ast.Load):
                    self.assertTrue(is_read_only(parent, node), (name, node.lineno))

    def test_lists_and_dicts_of_the_top_hold_none(self):
        for name, tree in trees():
            for node in tree.body:
                if isinstance(node, ast.Assign) and isinstance(node.value, (ast.List, ast.Dict)):
                    inner = [part for part in ast.walk(node.value) if isinstance(part, (ast.List, ast.Dict))]
                    self.assertEqual(len(inner), 1, name)

    def test_what_a_loop_walks_is_not_changed_in_it(self):
        for name, tree in trees():
            for loop in ast.walk(tree):
                if not isinstance(loop, ast.For):
                    continue
                named = [part for part in ast.walk(loop.iter) if isinstance(part, (ast.Name, ast.Attribute))]
                walked = {ast.unparse(part) for part in named}
                for node in ast.walk(ast.Module(body=loop.body, type_ignores=[])):
                    if isinstance(node, ast.Attribute) and node.attr in CHANGES:
                        self.assertNotIn(ast.unparse(node.value), walked, (name, node.lineno))
                    if isinstance(node, ast.Subscript) and isinstance(node.ctx, ast.Store):
                        self.assertNotIn(ast.unparse(node.value), walked, (name, node.lineno))


class Names(unittest.TestCase):
    def test_imports(self):
        defined = {}
        drawn = {}
        for name, tree in trees():
            module = "storejudge." + name[:-3]
            defined[module] = set(bound_names(tree))
            drawn[module] = [node for node in tree.body if isinstance(node, ast.ImportFrom)]
        for module, rows in drawn.items():
            for node in rows:
                self.assertEqual(node.level, 0, module)
                for alias in node.names:
                    self.assertIn(alias.name, defined[node.module], module)
        todo = {module: {node.module for node in rows} for module, rows in drawn.items()}
        while todo:
            free = [module for module in todo if not todo[module] & set(todo)]
            self.assertTrue(free, "files that draw from one another")
            for module in free:
                del todo[module]

    def test_names_are_plain(self):
        for name, tree in trees():
            taken = {alias.name for node in tree.body if isinstance(node, ast.ImportFrom) for alias in node.names}
            taken |= {node.name for node in tree.body if isinstance(node, ast.ClassDef)}
            methods = {node for part in ast.walk(tree) if isinstance(part, ast.ClassDef) for node in part.body}
            method_names = {node.name for node in methods if isinstance(node, ast.FunctionDef)}
            for bound in bound_names(tree):
                if bound not in DUNDERS:
                    self.assertRegex(bound, r"^[A-Za-z][A-Za-z0-9_]*$", name)
                self.assertNotIn(bound, BANNED_NAMES, name)
                self.assertTrue(bound in method_names or not hasattr(builtins, bound), (name, bound))
            for node in ast.walk(tree):
                if isinstance(node, ast.Name) and isinstance(node.ctx, ast.Store) or isinstance(node, ast.arg):
                    self.assertNotIn(getattr(node, "id", getattr(node, "arg", None)), taken, (name, node.lineno))

    def test_names_of_pythons_own(self):
        for name, tree in trees():
            for node in ast.walk(tree):
                if isinstance(node, ast.Name) and hasattr(builtins, node.id):
                    self.assertIn(node.id, BUILTINS, (name, node.lineno))

    def test_methods(self):
        own = set()
        for _, tree in trees():
            for node in ast.walk(tree):
                if isinstance(node, ast.ClassDef):
                    own |= {part.name for part in node.body if isinstance(part, ast.FunctionDef)}
        for name, tree in trees():
            for node in ast.walk(tree):
                if isinstance(node, ast.Call) and isinstance(node.func, ast.Attribute):
                    self.assertIn(node.func.attr, METHODS | own, (name, node.lineno))

    def test_no_name_is_a_method_here_and_a_value_there(self):
        methods = set()
        values = set()
        for _, tree in trees():
            for node in ast.walk(tree):
                if isinstance(node, ast.ClassDef):
                    methods |= {part.name for part in node.body if isinstance(part, ast.FunctionDef)}
                if isinstance(node, ast.Attribute) and isinstance(node.ctx, ast.Store):
                    values.add(node.attr)
        self.assertEqual(methods & values, set())
        for value in values:
            self.assertFalse(any(hasattr(kind, value) for kind in (str, int, list, dict, set, bytes)), value)


if __name__ == "__main__":
    unittest.main()
