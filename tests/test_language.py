"""The package keeps to the small part of Python that it is written in: the rules that can be seen in the text."""

import ast
import builtins
import pathlib
import re
import unittest

PACKAGE = pathlib.Path(__file__).resolve().parent.parent / "sootring"
FILES = sorted(path for path in PACKAGE.rglob("*.py"))

PLAIN_NODES = set("""
    Module Expr Import ImportFrom alias FunctionDef arguments arg ClassDef Lambda Return Assign AugAssign If While For
    Break Continue Pass Raise Try ExceptHandler Call Attribute Subscript Slice Name Constant List Tuple Dict Set
    ListComp comprehension JoinedStr FormattedValue IfExp BoolOp BinOp UnaryOp Compare keyword Load Store
    And Or Not Add Sub Mult FloorDiv Mod Pow BitAnd BitOr BitXor Invert LShift RShift UAdd USub
    Eq NotEq Lt LtE Gt GtE In NotIn Is IsNot
""".split())

PLAIN_BUILTINS = set("""
    len range enumerate zip min max sum abs sorted reversed int str bool list tuple dict set frozenset isinstance ord
    repr any all divmod Exception ValueError TypeError KeyError IndexError LookupError ZeroDivisionError
    ArithmeticError OverflowError RuntimeError NotImplementedError AttributeError StopIteration
""".split())

PLAIN_METHODS = set("""
    append clear copy count endswith extend find get index insert isalnum isalpha isdigit islower isspace isupper items
    join keys ljust lower lstrip partition pop remove replace reverse rfind rjust rpartition rsplit rstrip setdefault
    split splitlines startswith strip update upper values zfill bit_length
""".split())

NO_WORDS = set("""
    type typing typing_extensions enum Enum IntEnum StrEnum Flag IntFlag Generic Protocol ABC ABCMeta namedtuple
    NamedTuple TypedDict TYPE_CHECKING abstractmethod
""".split())

NO_NAMES = set("""
    register mro elements open input version_info with_traceback add_note format format_map
""".split())

OWN_UNDERSCORES = {"__init__", "__eq__", "__repr__", "__str__", "__len__"}


def tree_of(path):
    return ast.parse(path.read_text(encoding="ascii"))


def nodes(*kinds):
    """All nodes of some kinds in the package, with the place where they stand."""
    for path in FILES:
        for node in ast.walk(tree_of(path)):
            if isinstance(node, kinds):
                yield f"{path.name}:{getattr(node, 'lineno', 0)}", node


def names_bound(path):
    """The names that a file binds at its top, but for its imports."""
    found = []
    for node in tree_of(path).body:
        if isinstance(node, (ast.FunctionDef, ast.ClassDef)):
            found.append(node.name)
        if isinstance(node, ast.Assign):
            found.append(node.targets[0].id)
    return found


def drawn_from(path):
    """The files that a file imports from."""
    rows = [node for node in tree_of(path).body if isinstance(node, ast.ImportFrom)]
    return [PACKAGE / (node.module.split(".", 1)[1] + ".py") for node in rows]


def names_drawn(path):
    """The names that a file imports."""
    rows = [node for node in tree_of(path).body if isinstance(node, ast.ImportFrom)]
    return {name.name for node in rows for name in node.names}


class Files(unittest.TestCase):

    def test_nothing_but_python_files(self):
        found = [path for path in PACKAGE.rglob("*") if path.is_file() and "__pycache__" not in path.parts]
        self.assertEqual(sorted(found), FILES)
        for path in FILES:
            self.assertRegex(path.name, r"^[a-z0-9_]+\.py$")

    def test_signs_and_sizes(self):
        for path in FILES:
            text = path.read_bytes().decode("ascii")
            self.assertIsNone(re.search(r"[^ -~\n]", text), path.name)
            rows = text.split("\n")
            self.assertLessEqual(len(rows), 400, path.name)
            self.assertLessEqual(max(len(one) for one in rows), 120, path.name)

    def test_functions_are_short(self):
        for place, node in nodes(ast.FunctionDef):
            self.assertLessEqual(node.end_lineno - node.lineno + 1, 40, place)

    def test_words_that_stand_nowhere(self):
        for path in FILES:
            text = path.read_text(encoding="ascii")
            self.assertEqual(set(re.findall(r"\w+", text)) & NO_WORDS, set(), path.name)
            self.assertIsNone(re.search("dataclass|overload|contextmanager", text), path.name)


class Imports(unittest.TestCase):

    def test_only_from_the_file_that_defines_the_name(self):
        for path in FILES:
            for node in tree_of(path).body:
                self.assertNotIsInstance(node, ast.Import, path.name)
                if isinstance(node, ast.ImportFrom):
                    self.assertEqual(node.level, 0, path.name)
                    self.assertRegex(node.module, r"^sootring\.[a-z0-9_]+$")
                    bound = names_bound(PACKAGE / (node.module.split(".")[1] + ".py"))
                    for name in node.names:
                        self.assertIn(name.name, bound, path.name)

    def test_no_circles(self):
        for path in FILES:
            reached = drawn_from(path)
            for other in reached:
                self.assertNotEqual(other, path)
                reached.extend(one for one in drawn_from(other) if one not in reached)

    def test_names_are_bound_once(self):
        for path in FILES:
            bound = names_bound(path)
            self.assertEqual(len(bound), len(set(bound)), path.name)


    def test_imports_are_used(self):
        for path in FILES:
            used = {node.id for node in ast.walk(tree_of(path)) if isinstance(node, ast.Name)}
            self.assertEqual(names_drawn(path) - used, set(), path.name)


class Forms(unittest.TestCase):

    def test_plain_nodes(self):
        for place, node in nodes(ast.AST):
            self.assertIn(type(node).__name__, PLAIN_NODES, place)

    def test_plain_values(self):
        for place, node in nodes(ast.Constant):
            self.assertIn(type(node.value), (int, str, bool, type(None)), place)
            if isinstance(node.value, str):
                self.assertNotIn("%", node.value, place)

    def test_plain_definitions(self):
        for place, node in nodes(ast.FunctionDef, ast.ClassDef):
            self.assertEqual(node.decorator_list, [], place)
        for place, node in nodes(ast.arguments):
            self.assertEqual([node.vararg, node.kwarg, node.kwonlyargs, node.posonlyargs], [None, None, [], []], place)
        for place, node in nodes(ast.ClassDef):
            self.assertLessEqual(len(node.bases), 1, place)
            for inner in node.body:
                doc = isinstance(inner, ast.Expr) and isinstance(inner.value, ast.Constant)
                self.assertTrue(doc or isinstance(inner, ast.FunctionDef), place)

    def test_one_for_in_a_comprehension(self):
        for place, node in nodes(ast.ListComp):
            self.assertEqual(len(node.generators), 1, place)
            self.assertLessEqual(len(node.generators[0].ifs), 1, place)

    def test_one_target_and_no_else_behind_a_loop(self):
        for place, node in nodes(ast.Assign):
            self.assertEqual(len(node.targets), 1, place)
        for place, node in nodes(ast.For, ast.While):
            self.assertEqual(node.orelse, [], place)

    def test_sets_stand_where_they_may(self):
        for path in FILES:
            allowed = []
            for node in ast.walk(tree_of(path)):
                if isinstance(node, ast.Call) and isinstance(node.func, ast.Name) and node.func.id in ("sorted", "len"):
                    allowed += [] if node.keywords else [ast.dump(node.args[0], include_attributes=True)]
            for node in ast.walk(tree_of(path)):
                if isinstance(node, ast.Call) and isinstance(node.func, ast.Name) and node.func.id == "set":
                    self.assertIn(ast.dump(node, include_attributes=True), allowed, path.name)
                self.assertNotIsInstance(node, (ast.Set, ast.Pow), path.name)

    def test_walks_are_not_kept(self):
        for place, node in nodes(ast.Assign, ast.Return):
            if isinstance(node.value, ast.Call):
                told = node.value.func
                name = told.id if isinstance(told, ast.Name) else told.attr
                self.assertNotIn(name, ("zip", "enumerate", "reversed", "range", "items", "keys", "values"), place)

    def test_is_stands_beside_none_and_truths(self):
        for place, node in nodes(ast.Compare):
            for sign, right in zip(node.ops, node.comparators):
                if isinstance(sign, (ast.Is, ast.IsNot)):
                    self.assertIsInstance(right, ast.Constant, place)
                    self.assertIn(right.value, (None, True, False), place)


class Names(unittest.TestCase):

    def test_python_s_own_names(self):
        for place, node in nodes(ast.Name):
            if hasattr(builtins, node.id):
                self.assertIn(node.id, PLAIN_BUILTINS, place)
                self.assertIsInstance(node.ctx, ast.Load, place)
        for place, node in nodes(ast.arg):
            self.assertFalse(hasattr(builtins, node.arg), place)

    def test_plain_names(self):
        told = [(place, node.id) for place, node in nodes(ast.Name)]
        told += [(place, node.arg) for place, node in nodes(ast.arg)]
        told += [(place, node.attr) for place, node in nodes(ast.Attribute)]
        told += [(place, node.name) for place, node in nodes(ast.FunctionDef, ast.ClassDef)]
        for place, name in told:
            self.assertTrue(name in OWN_UNDERSCORES or re.match(r"^[A-Za-z][A-Za-z0-9_]*$", name), f"{place} {name}")
            self.assertNotIn(name, NO_NAMES, place)

    def test_locals_are_not_called_like_imports_or_classes(self):
        for path in FILES:
            classes = {node.name for node in tree_of(path).body if isinstance(node, ast.ClassDef)}
            for node in ast.walk(tree_of(path)):
                if isinstance(node, ast.Name) and isinstance(node.ctx, ast.Store):
                    self.assertNotIn(node.id, names_drawn(path) | classes, path.name)
                if isinstance(node, ast.arg):
                    self.assertNotIn(node.arg, names_drawn(path) | classes, path.name)

    def test_methods(self):
        own = set()
        for place, node in nodes(ast.ClassDef):
            own.update(inner.name for inner in node.body if isinstance(inner, ast.FunctionDef))
        kept = {node.attr for place, node in nodes(ast.Attribute) if isinstance(node.ctx, ast.Store)}
        self.assertEqual(own & kept, set())
        for place, node in nodes(ast.Attribute):
            self.assertIn(node.attr, own | kept | PLAIN_METHODS, place)


if __name__ == "__main__":
    unittest.main()
