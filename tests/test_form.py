"""The form that the package's files keep to: a small part of Python, the same under 3.11 and 3.13."""

import ast
import re
import unittest
from pathlib import Path

PACKAGE = Path(__file__).resolve().parent.parent / "tiefold"

OWN_NAMES = set("""len range enumerate zip min max sum abs sorted reversed int str bool list tuple dict set frozenset
    isinstance ord repr any all divmod Exception ValueError TypeError KeyError IndexError LookupError
    ZeroDivisionError ArithmeticError OverflowError RuntimeError NotImplementedError StopIteration""".split())

METHODS = set("""append clear copy count endswith extend find get index insert isalnum isalpha isdigit islower isspace
    isupper items join keys ljust lower lstrip partition pop remove replace reverse rfind rjust rpartition rsplit
    rstrip setdefault split splitlines startswith strip update upper values zfill bit_length""".split())

NODES = (ast.Module, ast.ImportFrom, ast.alias, ast.FunctionDef, ast.ClassDef, ast.arguments, ast.arg, ast.Assign,
         ast.AugAssign, ast.If, ast.While, ast.For, ast.Return, ast.Break, ast.Continue, ast.Pass, ast.Raise, ast.Try,
         ast.ExceptHandler, ast.Expr, ast.Constant, ast.List, ast.Tuple, ast.Dict, ast.Set, ast.BinOp, ast.UnaryOp,
         ast.BoolOp, ast.Compare, ast.IfExp, ast.Call, ast.keyword, ast.Attribute, ast.Subscript, ast.Slice,
         ast.ListComp, ast.comprehension, ast.JoinedStr, ast.FormattedValue, ast.Lambda, ast.Name, ast.expr_context,
         ast.boolop, ast.operator, ast.unaryop, ast.cmpop)

KEYWORDS = {"sorted": {"key", "reverse"}, "min": {"key", "default"}, "max": {"key", "default"}, "sum": {"start"},
            "enumerate": {"start"}, "zip": {"strict"}}

# Those that are walked where they stand, and what may walk them.
WALKED = {"zip", "enumerate", "reversed", "range"}
WALKERS = {"list", "tuple", "dict", "sorted", "sum", "any", "all", "enumerate", "zip", "min", "max"}

OF_PYTHONS_VALUES = {name for kind in (str, int, list, dict, set, bytes, tuple) for name in dir(kind)}

WORDS = re.compile(r"\b(type|typing|typing_extensions|enum|Enum|IntEnum|StrEnum|Flag|IntFlag|Generic|Protocol|ABC"
                   r"|ABCMeta|namedtuple|NamedTuple|TypedDict|TYPE_CHECKING|abstractmethod)\b"
                   r"|dataclass|overload|contextmanager")


def files():
    return sorted(PACKAGE.rglob("*.py"))


def trees():
    return [(path.name, ast.parse(path.read_text())) for path in files()]


def bound_names(tree):
    names = set()
    for node in ast.walk(tree):
        if isinstance(node, (ast.FunctionDef, ast.ClassDef)):
            names.add(node.name)
        elif isinstance(node, ast.arg):
            names.add(node.arg)
        elif isinstance(node, ast.alias):
            names.add(node.asname or node.name)
        elif isinstance(node, ast.Name) and isinstance(node.ctx, ast.Store):
            names.add(node.id)
        elif isinstance(node, ast.ExceptHandler) and node.name:
            names.add(node.name)
    return names


def called(node):
    """The plain name that a node calls, or None."""
    return node.func.id if isinstance(node, ast.Call) and isinstance(node.func, ast.Name) else None


def parents(tree):
    return {child: node for node in ast.walk(tree) for child in ast.iter_child_nodes(node)}


class Form(unittest.TestCase):
    def test_nothing_but_plain_files_in_the_package(self):
        self.assertTrue((PACKAGE / "__init__.py").is_file())
        for path in PACKAGE.iterdir():
            if path.name != "__pycache__":
                self.assertRegex(path.name, r"^(__init__|__main__|[a-z][a-z0-9_]*)\.py$")
                self.assertNotRegex(path.name, r"^(test|tests|testing|test_.*|site|conftest)\.py$")

    def test_sizes_and_signs(self):
        for path in files():
            rows = path.read_text().split("\n")
            self.assertLessEqual(len(rows), 400, path.name)
            for at, row in enumerate(rows, 1):
                self.assertLessEqual(len(row), 120, (path.name, at))
                self.assertRegex(row, r"^[ -~]*$", (path.name, at))
                self.assertNotRegex(row, WORDS, (path.name, at))

    def test_functions_have_at_most_forty_lines(self):
        for name, tree in trees():
            for node in ast.walk(tree):
                if isinstance(node, ast.FunctionDef):
                    self.assertLessEqual(node.end_lineno - node.lineno + 1, 40, (name, node.name))
                    self.assertEqual(node.decorator_list, [], (name, node.name))
                    self.assertIsNone(node.args.vararg or node.args.kwarg, (name, node.name))
                    self.assertEqual(node.args.kwonlyargs + node.args.posonlyargs, [], (name, node.name))

    def test_the_top_of_a_module(self):
        for name, tree in trees():
            for node in tree.body[1:]:
                self.assertIsInstance(node, (ast.ImportFrom, ast.FunctionDef, ast.ClassDef, ast.Assign), name)
            self.assertIsNotNone(ast.get_docstring(tree), name)

    def test_imports_are_the_packages_own(self):
        for name, tree in trees():
            for node in ast.walk(tree):
                if isinstance(node, ast.ImportFrom):
                    self.assertIn(node, tree.body, name)
                    self.assertEqual(node.level, 0, name)
                    self.assertTrue(node.module.startswith("tiefold."), (name, node.module))
                    self.assertNotIn("*", [alias.name for alias in node.names], name)

    def test_statements_and_expressions(self):
        for name, tree in trees():
            for node in ast.walk(tree):
                at = (name, getattr(node, "lineno", 0))
                self.assertIsInstance(node, NODES, at)
                self.assertNotIsInstance(node, (ast.Div, ast.MatMult), at)
                if isinstance(node, ast.Constant):
                    self.assertIn(type(node.value), (int, str, bool, type(None)), at)
                if isinstance(node, (ast.For, ast.While)):
                    self.assertEqual(node.orelse, [], at)
                if isinstance(node, ast.Assign):
                    self.assertEqual(len(node.targets), 1, at)
                    self.assertNotIsInstance(node.targets[0], (ast.Tuple, ast.List), at)
                if isinstance(node, ast.ListComp):
                    self.assertEqual(len(node.generators), 1, at)
                    self.assertLessEqual(len(node.generators[0].ifs), 1, at)
                if isinstance(node, ast.Expr) and node is not tree.body[0]:
                    self.assertIsInstance(node.value, ast.Call, at)
                if isinstance(node, ast.Compare) and any(isinstance(op, (ast.Is, ast.IsNot)) for op in node.ops):
                    self.assertIsInstance(node.comparators[0], ast.Constant, at)

    def test_names(self):
        for name, tree in trees():
            bound = bound_names(tree)
            for word in sorted(bound - {"__init__", "__eq__", "__repr__", "__str__", "__len__"}):
                self.assertRegex(word, r"^[A-Za-z][A-Za-z0-9_]*$", name)
            self.assertEqual(bound & set(dir(__builtins__) if not isinstance(__builtins__, dict) else __builtins__),
                             set(), name)
            for node in ast.walk(tree):
                if isinstance(node, ast.Name):
                    self.assertIn(node.id, bound | OWN_NAMES, (name, node.lineno))

    def test_names_of_a_files_top_are_bound_once(self):
        for name, tree in trees():
            top = []
            for node in tree.body:
                if isinstance(node, (ast.FunctionDef, ast.ClassDef)):
                    top.append(node.name)
                elif isinstance(node, ast.ImportFrom):
                    top.extend(alias.asname or alias.name for alias in node.names)
                elif isinstance(node, ast.Assign):
                    top.append(node.targets[0].id)
            self.assertEqual(len(top), len(set(top)), name)

    def test_no_local_is_called_like_a_class_or_an_import_of_its_file(self):
        for name, tree in trees():
            taken = {node.name for node in tree.body if isinstance(node, ast.ClassDef)}
            for node in tree.body:
                if isinstance(node, ast.ImportFrom):
                    taken |= {alias.asname or alias.name for alias in node.names}
            for node in ast.walk(tree):
                if isinstance(node, ast.arg):
                    self.assertNotIn(node.arg, taken, (name, node.lineno))
                elif isinstance(node, ast.Name) and isinstance(node.ctx, ast.Store):
                    self.assertNotIn(node.id, taken, (name, node.lineno))

    def test_imports_never_go_round(self):
        drawn = {path.stem: {node.module.split(".")[1] for node in ast.walk(ast.parse(path.read_text()))
                             if isinstance(node, ast.ImportFrom)} for path in files()}
        while drawn:
            free = [name for name in drawn if not drawn[name] & set(drawn)]
            self.assertNotEqual(free, [], drawn)
            for name in free:
                drawn.pop(name)

    def test_imports_are_from_the_file_that_defines_the_name(self):
        for name, tree in trees():
            for node in tree.body:
                if isinstance(node, ast.ImportFrom):
                    source = ast.parse((PACKAGE / (node.module.split(".")[1] + ".py")).read_text())
                    defined = {inner.name for inner in source.body if isinstance(inner, (ast.FunctionDef, ast.ClassDef))}
                    defined |= {inner.targets[0].id for inner in source.body if isinstance(inner, ast.Assign)}
                    for alias in node.names:
                        self.assertIn(alias.name, defined, (name, node.lineno))

    def test_keywords(self):
        for name, tree in trees():
            for node in ast.walk(tree):
                if isinstance(node, ast.Call) and node.keywords:
                    self.assertIn(called(node), KEYWORDS, (name, node.lineno))
                    self.assertLessEqual({word.arg for word in node.keywords}, KEYWORDS[called(node)])

    def test_pythons_own_are_called_and_not_kept(self):
        for name, tree in trees():
            above = parents(tree)
            for node in ast.walk(tree):
                if not isinstance(node, ast.Name) or node.id not in OWN_NAMES:
                    continue
                user = above[node]
                if isinstance(user, ast.Tuple):
                    user = above[user]
                at = (name, node.lineno)
                self.assertIsInstance(user, (ast.Call, ast.ClassDef, ast.Raise, ast.ExceptHandler, ast.keyword), at)
                if isinstance(user, ast.Call) and user.func is not node:
                    self.assertEqual(called(user), "isinstance", at)

    def test_walked_at_once(self):
        for name, tree in trees():
            above = parents(tree)
            for node in ast.walk(tree):
                if called(node) in WALKED:
                    user = above[node]
                    if not isinstance(user, (ast.For, ast.comprehension)):
                        self.assertIn(called(user), WALKERS, (name, node.lineno))

    def test_powers_have_a_written_exponent(self):
        for name, tree in trees():
            for node in ast.walk(tree):
                if isinstance(node, (ast.BinOp, ast.AugAssign)) and isinstance(node.op, ast.Pow):
                    exponent = node.right if isinstance(node, ast.BinOp) else node.value
                    self.assertIsInstance(exponent, ast.Constant, (name, node.lineno))

    def test_no_annotations(self):
        for name, tree in trees():
            for node in ast.walk(tree):
                if isinstance(node, ast.FunctionDef):
                    self.assertIsNone(node.returns, (name, node.lineno))
                elif isinstance(node, ast.arg):
                    self.assertIsNone(node.annotation, (name, node.lineno))

    def test_sets_are_neither_kept_nor_walked(self):
        for name, tree in trees():
            above = parents(tree)
            for node in ast.walk(tree):
                if isinstance(node, ast.Set) or called(node) in ("set", "frozenset"):
                    user = above[node]
                    while isinstance(user, ast.BinOp):
                        user = above[user]
                    if not isinstance(user, ast.Compare):
                        self.assertIn(called(user), ("sorted", "len"), (name, node.lineno))

    def test_no_two_lambdas_with_the_same_parameters_on_one_line(self):
        for name, tree in trees():
            seen = [(node.lineno, [arg.arg for arg in node.args.args]) for node in ast.walk(tree)
                    if isinstance(node, ast.Lambda)]
            for one in seen:
                self.assertEqual(seen.count(one), 1, (name, one))

    def test_texts(self):
        for name, tree in trees():
            for node in ast.walk(tree):
                if isinstance(node, ast.Constant) and isinstance(node.value, str):
                    self.assertNotIn("%", node.value, (name, node.lineno))

    def test_errors_are_made_on_the_spot_and_taken_by_their_names(self):
        for name, tree in trees():
            for node in ast.walk(tree):
                if isinstance(node, ast.Raise):
                    self.assertIsInstance(node.exc, ast.Call, (name, node.lineno))
                elif isinstance(node, ast.ExceptHandler):
                    self.assertIsNotNone(node.type, (name, node.lineno))
                    self.assertFalse({"Exception", "TypeError"} & {inner.id for inner in ast.walk(node.type)
                                                                   if isinstance(inner, ast.Name)}, (name, node.lineno))

    def test_classes_stand_at_the_top_with_methods_alone(self):
        for name, tree in trees():
            for node in ast.walk(tree):
                if isinstance(node, ast.ClassDef):
                    self.assertIn(node, tree.body, (name, node.lineno))
                    self.assertLessEqual(len(node.bases), 1, (name, node.lineno))
                    methods = [inner.name for inner in node.body if isinstance(inner, ast.FunctionDef)]
                    self.assertEqual(len(methods), len(set(methods)), (name, node.lineno))
                    for inner in node.body:
                        self.assertIsInstance(inner, (ast.FunctionDef, ast.Pass), (name, inner.lineno))

    def test_own_methods_and_values(self):
        methods, values = set(), set()
        for name, tree in trees():
            for node in ast.walk(tree):
                if isinstance(node, ast.ClassDef):
                    methods |= {inner.name for inner in node.body if isinstance(inner, ast.FunctionDef)}
                if isinstance(node, ast.Attribute) and isinstance(node.ctx, ast.Store):
                    values.add(node.attr)
        self.assertEqual(methods & values, set())
        self.assertEqual((methods | values) & (OF_PYTHONS_VALUES - {"__init__"}), set())

    def test_methods(self):
        for name, tree in trees():
            own = {node.name for cls in ast.walk(tree) if isinstance(cls, ast.ClassDef) for node in cls.body
                   if isinstance(node, ast.FunctionDef)}
            for node in ast.walk(tree):
                if isinstance(node, ast.Call) and isinstance(node.func, ast.Attribute):
                    self.assertIn(node.func.attr, METHODS | own, (name, node.lineno))


if __name__ == "__main__":
    unittest.main()
