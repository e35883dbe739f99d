"""The form of the package's files, as far as it can be read off their syntax trees."""

import ast
import builtins
import pathlib
import re
import unittest

PACKAGE = pathlib.Path(__file__).resolve().parent.parent / "fuelstation"
FILES = sorted(path for path in PACKAGE.rglob("*") if "__pycache__" not in path.parts)

STATEMENTS = (
    ast.FunctionDef, ast.ClassDef, ast.Assign, ast.AugAssign, ast.If, ast.While, ast.For, ast.Return, ast.Break,
    ast.Continue, ast.Pass, ast.Raise, ast.Try, ast.Expr, ast.ImportFrom,
)
EXPRESSIONS = (
    ast.Constant, ast.List, ast.Tuple, ast.Dict, ast.BinOp, ast.UnaryOp, ast.Compare, ast.BoolOp, ast.IfExp, ast.Call,
    ast.Attribute, ast.Subscript, ast.Slice, ast.ListComp, ast.JoinedStr, ast.FormattedValue, ast.Name, ast.Lambda,
)
BUILT_IN = """
    len range enumerate zip min max sum abs sorted reversed int str bool list tuple dict set frozenset isinstance ord
    repr any all divmod Exception ValueError TypeError KeyError IndexError LookupError ZeroDivisionError
    ArithmeticError OverflowError RuntimeError NotImplementedError AttributeError StopIteration
""".split()
PYTHONS_METHODS = """
    append clear copy count endswith extend find get index insert isalnum isalpha isdigit islower isspace isupper items
    join keys ljust lower lstrip partition pop remove replace reverse rfind rjust rpartition rsplit rstrip setdefault
    split splitlines startswith strip update upper values zfill bit_length
""".split()
WORDS = """
    type typing typing_extensions enum Enum IntEnum StrEnum Flag IntFlag Generic Protocol ABC ABCMeta namedtuple
    NamedTuple TypedDict TYPE_CHECKING abstractmethod
""".split()
UNUSED = "register mro elements open input version_info with_traceback add_note format format_map".split()
OF_PYTHONS_VALUES = {name for kind in (str, int, list, dict, set, bytes, tuple) for name in dir(kind)}


def trees():
    return [(path.name, ast.parse(path.read_text(encoding="ascii"))) for path in FILES]


def nodes(*kinds):
    return [(name, node) for name, tree in trees() for node in ast.walk(tree) if isinstance(node, kinds)]


def methods():
    return {node.name for where, one in nodes(ast.ClassDef) for node in one.body if isinstance(node, ast.FunctionDef)}


def object_values():
    return {node.attr for where, node in nodes(ast.Attribute) if isinstance(node.ctx, ast.Store)}


class Files(unittest.TestCase):
    def test_only_python_files_with_plain_names(self):
        self.assertIn(PACKAGE / "__init__.py", FILES)
        for path in FILES:
            self.assertRegex(path.name, r"^([a-z][a-z0-9_]*|__init__)\.py$")

    def test_size_and_signs(self):
        for path in FILES:
            text = path.read_text(encoding="utf-8")
            self.assertRegex(text, r"\A[ -~\n]*\Z", path.name)
            self.assertLessEqual(len(text.splitlines()), 400, path.name)
            for row in text.splitlines():
                self.assertLessEqual(len(row), 120, path.name)
        for where, node in nodes(ast.FunctionDef):
            self.assertLessEqual(node.end_lineno - node.lineno + 1, 40, (where, node.name))

    def test_words_that_stand_nowhere(self):
        for path in FILES:
            text = path.read_text(encoding="utf-8")
            self.assertEqual([word for word in WORDS if re.search(rf"\b{word}\b", text)], [], path.name)
            self.assertIsNone(re.search("dataclass|overload|contextmanager", text), path.name)


class Forms(unittest.TestCase):
    def test_statements_and_expressions(self):
        for where, node in nodes(ast.stmt):
            self.assertIsInstance(node, STATEMENTS, (where, node.lineno))
        for where, node in nodes(ast.expr):
            self.assertIsInstance(node, EXPRESSIONS, (where, node.lineno))

    def test_no_decorator_annotation_or_star(self):
        for where, node in nodes(ast.FunctionDef, ast.ClassDef):
            self.assertEqual(node.decorator_list, [], where)
        for where, node in nodes(ast.arguments):
            self.assertEqual((node.vararg, node.kwarg, node.kwonlyargs, node.posonlyargs), (None, None, [], []), where)
        for where, node in nodes(ast.arg):
            self.assertIsNone(node.annotation, where)

    def test_loops_and_assignments(self):
        for where, node in nodes(ast.For, ast.While):
            self.assertEqual(node.orelse, [], (where, node.lineno))
        for where, node in nodes(ast.Assign):
            self.assertEqual(len(node.targets), 1, (where, node.lineno))
            self.assertIsInstance(node.targets[0], (ast.Name, ast.Attribute, ast.Subscript), (where, node.lineno))
        for where, node in nodes(ast.ListComp):
            self.assertEqual(len(node.generators), 1, (where, node.lineno))

    def test_numbers_and_operators(self):
        for where, node in nodes(ast.Constant):
            self.assertIn(node.value.__class__, (int, str, bool, None.__class__), (where, node.lineno))
        for where, node in nodes(ast.Div, ast.MatMult):
            self.fail(where)
        for where, node in nodes(ast.Compare):
            if any(isinstance(one, (ast.Is, ast.IsNot)) for one in node.ops):
                self.assertTrue(all(isinstance(one, ast.Constant) for one in node.comparators), (where, node.lineno))

    def test_imports(self):
        for where, node in nodes(ast.ImportFrom):
            self.assertEqual(node.level, 0, where)
            self.assertTrue(node.module.startswith("fuelstation."), (where, node.module))
            source = PACKAGE / (node.module.split(".")[1] + ".py")
            defined = {one.name for one in ast.parse(source.read_text()).body if hasattr(one, "name")}
            defined |= {one.targets[0].id for one in ast.parse(source.read_text()).body if isinstance(one, ast.Assign)}
            self.assertLessEqual({one.name for one in node.names}, defined, where)

    def test_no_two_files_draw_from_one_another(self):
        drawn = {path.name: set() for path in FILES}
        for where, node in nodes(ast.ImportFrom):
            drawn[where].add(node.module.split(".")[1] + ".py")
        while drawn:
            free = [name for name in drawn if not drawn[name] & set(drawn)]
            self.assertNotEqual(free, [], drawn)
            drawn = {name: drawn[name] for name in drawn if name not in free}

    def test_the_top_of_a_file(self):
        for where, tree in trees():
            above = set()
            for node in tree.body:
                if isinstance(node, ast.FunctionDef):
                    above.add(node.name)
                if isinstance(node, ast.Assign):
                    values = [one for one in ast.walk(node.value) if isinstance(one, ast.Name)]
                    self.assertLessEqual({one.id for one in values}, above, (where, node.lineno))
                    calls = [one for one in ast.walk(node.value) if isinstance(one, (ast.Call, ast.BinOp))]
                    self.assertEqual(calls, [], (where, node.lineno))


class Names(unittest.TestCase):
    def test_plain_names(self):
        for where, node in nodes(ast.Name, ast.arg, ast.Attribute, ast.FunctionDef, ast.ClassDef):
            name = node.id if isinstance(node, ast.Name) else node.attr if isinstance(node, ast.Attribute) else (
                node.arg if isinstance(node, ast.arg) else node.name)
            if name != "__init__":
                self.assertRegex(name, r"^[A-Za-z][A-Za-z0-9_]*$", where)
            self.assertNotIn(name, UNUSED, where)

    def test_built_in_names(self):
        for where, node in nodes(ast.Name):
            if hasattr(builtins, node.id):
                self.assertIn(node.id, BUILT_IN, (where, node.lineno))
                self.assertIsInstance(node.ctx, ast.Load, (where, node.lineno))
        for where, node in nodes(ast.arg):
            self.assertFalse(hasattr(builtins, node.arg), (where, node.arg))

    def test_own_methods_and_values(self):
        self.assertEqual(methods() & object_values(), set())
        self.assertEqual((methods() | object_values()) & OF_PYTHONS_VALUES, {"__init__"})

    def test_methods_that_are_called(self):
        for where, node in nodes(ast.Call):
            if isinstance(node.func, ast.Attribute):
                self.assertIn(node.func.attr, methods() | set(PYTHONS_METHODS), (where, node.lineno))

    def test_each_name_is_bound_once_at_the_top(self):
        for where, tree in trees():
            bound = [node.name for node in tree.body if isinstance(node, (ast.FunctionDef, ast.ClassDef))]
            bound += [node.targets[0].id for node in tree.body if isinstance(node, ast.Assign)]
            bound += [one.name for node in tree.body if isinstance(node, ast.ImportFrom) for one in node.names]
            self.assertEqual(sorted(bound), sorted(set(bound)), where)


if __name__ == "__main__":
    unittest.main()
