"""Holds the files of the package against those rules of their form that are easily seen."""

import ast
import builtins
import itertools
import os
import re
import unittest

ROOT = os.path.join(os.path.dirname(os.path.dirname(os.path.abspath(__file__))), "lateeditions")
FILES = sorted(name for name in os.listdir(ROOT) if name != "__pycache__")
CALLED = {
    "len", "range", "enumerate", "zip", "min", "max", "sum", "abs", "sorted", "reversed", "int", "str", "bool",
    "list", "tuple", "dict", "set", "isinstance", "ord", "repr", "any", "all", "divmod", "super", "map",
}
ERRORS = {"ValueError"}
METHODS = {
    "append", "clear", "copy", "count", "endswith", "extend", "find", "get", "index", "insert", "isalnum", "isalpha",
    "isdigit", "islower", "isspace", "isupper", "items", "join", "keys", "ljust", "lower", "lstrip", "partition",
    "pop", "remove", "replace", "reverse", "rfind", "rjust", "rpartition", "rsplit", "rstrip", "setdefault", "split",
    "splitlines", "startswith", "strip", "update", "upper", "values", "zfill",
}
DUNDERS = {"__init__", "__eq__", "__len__", "__repr__", "__str__"}
NEVER = {"register", "mro", "elements", "open", "input", "law", "version_info", "with_traceback", "add_note"}
WORDS = (
    "typing|typing_extensions|enum|Enum|IntEnum|StrEnum|Flag|IntFlag|Generic|Protocol|ABC|ABCMeta|namedtuple|"
    "NamedTuple|TypedDict|TYPE_CHECKING|abstractmethod|_wall|_WallAttr"
)
STATEMENTS = (
    ast.Assign, ast.AugAssign, ast.If, ast.While, ast.For, ast.Return, ast.Break, ast.Continue, ast.Pass, ast.Raise,
    ast.Assert, ast.Delete, ast.Nonlocal, ast.Try, ast.Expr, ast.FunctionDef, ast.ClassDef, ast.ImportFrom,
)
ITERATED = {"zip", "enumerate", "reversed", "map"}
TAKERS = {"list", "tuple", "dict", "sorted", "sum", "any", "all", "enumerate", "zip", "min", "max", "join"}


def source(name):
    with open(os.path.join(ROOT, name), encoding="utf-8") as file:
        return file.read()


def trees():
    for name in FILES:
        yield name, ast.parse(source(name))


def nodes(kind):
    for name, tree in trees():
        for node in ast.walk(tree):
            if isinstance(node, kind):
                yield f"{name}:{getattr(node, 'lineno', 0)}", node


def defined(tree):
    found = []
    for node in tree.body:
        if isinstance(node, (ast.FunctionDef, ast.ClassDef)):
            found.append(node.name)
        elif isinstance(node, ast.Assign):
            found.append(node.targets[0].id)
    return found


def imported(tree):
    return [alias.name for node in tree.body if isinstance(node, ast.ImportFrom) for alias in node.names]


def bound(tree):
    """All names that a file binds anywhere below its top."""
    found = []
    for node in ast.walk(tree):
        if isinstance(node, ast.arg):
            found.append((node.arg, node.lineno))
        elif isinstance(node, ast.Name) and not isinstance(node.ctx, ast.Load):
            found.append((node.id, node.lineno))
    return found


def called(node):
    """The name that a call calls: of a function, or of a method."""
    return node.func.id if isinstance(node.func, ast.Name) else getattr(node.func, "attr", None)


def parents(tree):
    return {child: node for node in ast.walk(tree) for child in ast.iter_child_nodes(node)}


def is_iterated(above, node):
    """Whether what stands at a node is iterated on the spot, and by nothing of the package's own."""
    over = above[node]
    if isinstance(over, (ast.For, ast.comprehension)):
        return over.iter is node
    if not isinstance(over, ast.Call) or not isinstance(over.func, ast.Name):
        return False
    if over.func.id == "reversed":
        return is_iterated(above, over)
    return over.func.id in TAKERS and over.args[0] is node


def is_asked_of(above, node):
    """Whether a kept range is only asked for its length, an item or what is in it."""
    over = above[node]
    if isinstance(over, ast.Subscript):
        return over.value is node
    if isinstance(over, ast.Compare):
        return isinstance(over.ops[-1], ast.In) and over.comparators[-1] is node
    return isinstance(over, ast.Call) and called(over) == "len"


def kept_uses(tree, above, assign):
    """The places where a plain local variable, which keeps a range and is assigned once, is read."""
    function = assign
    while not isinstance(function, ast.FunctionDef):
        function = above[function]
    name = assign.targets[0].id
    found = [node for node in ast.walk(function) if isinstance(node, ast.Name) and node.id == name]
    assert len(assign.targets) == 1 and [node for node in found if isinstance(node.ctx, ast.Store)] == [assign.targets[0]]
    return [node for node in found if isinstance(node.ctx, ast.Load)]


def parameters(one):
    """The names of the parameters of a lambda, in whatever sequence they stand."""
    told = one.args
    named = [*told.posonlyargs, *told.args, *told.kwonlyargs]
    return sorted([part.arg for part in [*named, told.vararg, told.kwarg] if part is not None])


def defaults(one):
    """The default values of a lambda by the names of their parameters."""
    told = one.args
    placed = [*told.posonlyargs, *told.args]
    pairs = list(zip(placed[len(placed) - len(told.defaults):], told.defaults))
    pairs += list(zip(told.kwonlyargs, told.kw_defaults))
    return {part.arg: ast.dump(value) for part, value in pairs if value is not None}


def share_a_line(one, other):
    return one.lineno <= other.end_lineno and other.lineno <= one.end_lineno


def statement_of(above, node):
    """The innermost statement in which a node stands."""
    while not isinstance(node, ast.stmt):
        node = above[node]
    return node


def lambda_pairs(tree):
    """The lines of the lambdas with parameters of the same names that no file may have side by side.

    They stand on one line, or, with different default values, in one statement.
    """
    above = parents(tree)
    found = [node for node in ast.walk(tree) if isinstance(node, ast.Lambda)]
    bad = []
    for one, other in itertools.combinations(found, 2):
        if parameters(one) == parameters(other):
            unlike = defaults(one) != defaults(other) and statement_of(above, one) is statement_of(above, other)
            if unlike or share_a_line(one, other):
                bad.append((one.lineno, other.lineno))
    return bad


class FormTest(unittest.TestCase):
    def test_files(self):
        for name in FILES:
            self.assertRegex(name, r"^[a-z_][a-z0-9_]*\.py$")

    def test_sizes_and_characters(self):
        for name in FILES:
            lines = source(name).split("\n")
            self.assertLessEqual(len(lines), 400, name)
            for number, line in enumerate(lines, 1):
                self.assertLessEqual(len(line), 120, f"{name}:{number}")
                self.assertRegex(line, r"^[ -~]*$", f"{name}:{number}")

    def test_functions_are_small(self):
        for spot, node in nodes(ast.FunctionDef):
            self.assertLessEqual(node.end_lineno - node.lineno + 1, 40, spot)

    def test_module_level(self):
        for name, tree in trees():
            for at, node in enumerate(tree.body):
                text = at == 0 and isinstance(node, ast.Expr) and isinstance(node.value, ast.Constant)
                kinds = (ast.ImportFrom, ast.FunctionDef, ast.ClassDef, ast.Assign)
                self.assertTrue(text or isinstance(node, kinds), f"{name}:{node.lineno}")
            names = defined(tree) + imported(tree)
            self.assertEqual(len(names), len(set(names)), name)

    def test_imports(self):
        known = {f"lateeditions.{name[:-3]}": defined(tree) for name, tree in trees()}
        for spot, node in nodes(ast.ImportFrom):
            self.assertEqual(node.level, 0, spot)
            for alias in node.names:
                self.assertIn(alias.name, known[node.module], spot)
                self.assertIsNone(alias.asname, spot)
        self.assertEqual(list(nodes(ast.Import)), [])

    def test_imports_are_used_and_go_one_way(self):
        before = []
        waiting = {
            name[:-3]: [node.module.split(".")[1] for node in tree.body if isinstance(node, ast.ImportFrom)]
            for name, tree in trees()
        }
        while len(before) < len(waiting):
            ready = [one for one in waiting if one not in before and all(other in before for other in waiting[one])]
            self.assertTrue(ready)
            before += ready
        for name, tree in trees():
            loaded = {node.id for node in ast.walk(tree) if isinstance(node, ast.Name)}
            for one in imported(tree):
                self.assertIn(one, loaded, name)

    def test_statements_and_expressions(self):
        for spot, node in nodes(ast.stmt):
            self.assertIsInstance(node, STATEMENTS, spot)
        barred = (
            ast.Yield, ast.YieldFrom, ast.Await, ast.GeneratorExp, ast.NamedExpr, ast.Starred, ast.Div, ast.Pow, ast.Mod,
            ast.AsyncFunctionDef, ast.Global, ast.With, ast.Match,
        )
        self.assertEqual([spot for spot, _ in nodes(barred)], [])

    def test_decorators(self):
        for spot, node in nodes((ast.FunctionDef, ast.ClassDef)):
            self.assertIn([ast.unparse(one) for one in node.decorator_list], [[], ["property"]], spot)

    def test_constants(self):
        for spot, node in nodes(ast.Constant):
            self.assertIsInstance(node.value, (int, str, type(None)), spot)
            if isinstance(node.value, str):
                self.assertNotIn("%", node.value, spot)

    def test_calls(self):
        own = {one for _, tree in trees() for one in defined(tree)}
        methods = {node.name for _, node in nodes(ast.FunctionDef)}
        for name, tree in trees():
            local = {one for one, _ in bound(tree)} | {
                node.name for node in ast.walk(tree) if isinstance(node, ast.FunctionDef)
            }
            for node in ast.walk(tree):
                if isinstance(node, ast.Call) and isinstance(node.func, ast.Name):
                    self.assertIn(node.func.id, CALLED | own | local, f"{name}:{node.lineno}")
                elif isinstance(node, ast.Call):
                    self.assertIsInstance(node.func, ast.Attribute, f"{name}:{node.lineno}")
                    self.assertIn(node.func.attr, METHODS | methods, f"{name}:{node.lineno}")

    def test_names(self):
        barred = set(dir(builtins)) | NEVER
        for name, tree in trees():
            local = bound(tree)
            functions = [node for node in ast.walk(tree) if isinstance(node, (ast.FunctionDef, ast.ClassDef))]
            for one, line in local + [(node.name, node.lineno) for node in functions]:
                self.assertFalse(one in barred and one not in DUNDERS, f"{name}:{line} {one}")
                self.assertTrue(one in DUNDERS or re.match(r"^_?[A-Za-z][A-Za-z0-9_]*$|^_$", one), f"{name}:{line} {one}")
            classes = [node.name for node in functions if isinstance(node, ast.ClassDef)]
            for one, line in local:
                self.assertNotIn(one, classes + imported(tree), f"{name}:{line}")
        for spot, node in nodes(ast.Attribute):
            self.assertNotIn(node.attr, NEVER, spot)

    def test_words(self):
        for name in FILES:
            for number, line in enumerate(source(name).split("\n"), 1):
                self.assertIsNone(re.search(rf"\b({WORDS})\b", line), f"{name}:{number}")

    def test_is(self):
        for spot, node in nodes(ast.Compare):
            for sign, other in zip(node.ops, node.comparators):
                if isinstance(sign, (ast.Is, ast.IsNot)):
                    self.assertIn(ast.unparse(other), ["None", "True", "False"], spot)

    def test_what_is_iterated_at_once(self):
        for name, tree in trees():
            above = parents(tree)
            for node in ast.walk(tree):
                if isinstance(node, ast.Call) and called(node) in ITERATED | {"items", "keys", "values"}:
                    over = above[node]
                    at_once = isinstance(over, (ast.For, ast.comprehension)) and over.iter is node
                    taken = isinstance(over, ast.Call) and called(over) in TAKERS
                    self.assertTrue(at_once or taken, f"{name}:{node.lineno}")

    def test_ranges_are_iterated_where_they_stand(self):
        for name, tree in trees():
            above = parents(tree)
            for node in ast.walk(tree):
                if not isinstance(node, ast.Call) or called(node) != "range":
                    continue
                over = above[node]
                if isinstance(over, ast.Assign):
                    for use in kept_uses(tree, above, over):
                        self.assertTrue(is_iterated(above, use) or is_asked_of(above, use), f"{name}:{use.lineno}")
                else:
                    self.assertTrue(is_iterated(above, node), f"{name}:{node.lineno}")

    def test_where_ranges_are_not_iterated(self):
        texts = {
            "def f():\n    return told(range(3))": False, "def f():\n    return range(3)": False, "def f():\n    return [range(3)]": False,
            "def f():\n    return told(list(range(3)))": True, "def f():\n    return [k for k in range(3)]": True,
            "def f():\n    for k in reversed(range(3)):\n        pass": True,
        }
        for text, expected in texts.items():
            tree = ast.parse(text)
            call = [node for node in ast.walk(tree) if isinstance(node, ast.Call) and called(node) == "range"][0]
            self.assertIs(is_iterated(parents(tree), call), expected, text)

    def test_lambdas_beside_each_other(self):
        for name, tree in trees():
            self.assertEqual(lambda_pairs(tree), [], name)

    def test_which_lambdas_stand_beside_each_other(self):
        texts = {
            "f(lambda one: [one], lambda one: one == 1)": [(1, 1)], "f(lambda: 1, lambda: 2)": [(1, 1)],
            "f(lambda one: 1, lambda other: 2)": [], "f(lambda one: 1, lambda one, other: 2)": [],
            "f(lambda one, other: 1, lambda other, one: 2)": [(1, 1)],
            "f(lambda one=1: 1, lambda one=2: 2)": [(1, 1)], "f(lambda one: 1, lambda one=2: 2)": [(1, 1)],
            "f(lambda one: lambda one: 1)": [(1, 1)], "f(lambda one=lambda one: 1: 2)": [(1, 1)],
            "f(lambda one: 1); g(lambda one: 2)": [(1, 1)], "f(lambda one: 1)\ng(lambda one: 2)": [],
            "f(\n    lambda one: 1,\n    lambda one: 2,\n)": [], "f(lambda one: [\n    one], lambda one: 2)": [(1, 2)],
            "f(\n    lambda one=1: 1,\n    lambda one=1: 2,\n)": [],
            "f(\n    lambda one=1: 1,\n    lambda one=2: 2,\n)": [(2, 3)],
            "f(\n    lambda one: 1,\n    lambda one=2: 2,\n)": [(2, 3)], "f(lambda one=1: 1)\ng(lambda one=2: 2)": [],
            "f(\n    lambda one, other=1: 1,\n    lambda other, one=1: 2,\n)": [(2, 3)],
            "f(\n    lambda one=1: 1,\n    lambda other=2: 2,\n)": [],
            "def f():\n    g(lambda one=1: 1)\n    g(lambda one=2: 2)": [],
            "f(lambda one: 1, lambda other: 2, lambda one: 3)": [(1, 1)],
        }
        for text, expected in texts.items():
            self.assertEqual(lambda_pairs(ast.parse(text)), expected, text)

    def test_sets(self):
        for name, tree in trees():
            above = parents(tree)
            for node in ast.walk(tree):
                call = isinstance(node, ast.Call) and called(node) == "set"
                if call or isinstance(node, (ast.Set, ast.SetComp)):
                    over = above[node]
                    while isinstance(over, ast.BinOp):
                        over = above[over]
                    held = isinstance(over, ast.Call) and called(over) in {"sorted", "len"} and not over.keywords
                    self.assertTrue(held or isinstance(over, ast.Compare), f"{name}:{node.lineno}")

    def test_properties_only_tell(self):
        found = 0
        for spot, node in nodes(ast.FunctionDef):
            if node.decorator_list:
                found += 1
                self.assertEqual(len(node.body), 1, spot)
                self.assertIsInstance(node.body[0], ast.Return, spot)
        self.assertGreater(found, 0)

    def test_loops_do_not_change_what_they_iterate_over(self):
        changing = {"append", "extend", "pop", "remove", "insert", "clear", "setdefault", "update", "reverse"}
        for spot, node in nodes(ast.For):
            over = ast.unparse(node.iter)
            for inner in ast.walk(node):
                if isinstance(inner, ast.Call) and isinstance(inner.func, ast.Attribute) and inner.func.attr in changing:
                    self.assertNotEqual(ast.unparse(inner.func.value), over, spot)


if __name__ == "__main__":
    unittest.main()
