"""The package's files against a part of LANGUAGE.md: those rules that are easily seen in the text."""

import ast
import builtins
import pathlib
import re
import unittest

PACKAGE = pathlib.Path(__file__).resolve().parent.parent / "lossnets"

NODES = """Module Expr Assign AugAssign If While For Return Break Continue Pass Raise Try ExceptHandler
    FunctionDef ClassDef Lambda arguments arg ImportFrom alias Name Load Store Constant List Tuple Dict Set
    ListComp comprehension BinOp UnaryOp BoolOp Compare IfExp Call keyword Attribute Subscript Slice JoinedStr
    FormattedValue Add Sub Mult FloorDiv Mod Pow BitAnd BitOr BitXor Invert LShift RShift And Or Not USub UAdd
    Eq NotEq Lt LtE Gt GtE In NotIn Is IsNot""".split()

OWN_NAMES = """len range enumerate zip min max sum abs sorted reversed int str bool list tuple dict set frozenset
    isinstance ord repr any all divmod Exception ValueError TypeError KeyError IndexError LookupError
    ZeroDivisionError ArithmeticError OverflowError RuntimeError NotImplementedError AttributeError
    StopIteration""".split()

METHODS = """append clear copy count endswith extend find get index insert isalnum isalpha isdigit islower isspace
    isupper items join keys ljust lower lstrip partition pop remove replace reverse rfind rjust rpartition rsplit
    rstrip setdefault split splitlines startswith strip update upper values zfill bit_length""".split()

WORDS = """type typing typing_extensions enum Enum IntEnum StrEnum Flag IntFlag Generic Protocol ABC ABCMeta
    namedtuple NamedTuple TypedDict TYPE_CHECKING abstractmethod register mro elements open input version_info
    with_traceback add_note""".split()

PARTS_OF_WORDS = ["dataclass", "overload", "contextmanager"]

WALKED_NAMES = ["zip", "enumerate", "reversed", "range"]
WALKED_METHODS = ["items", "keys", "values"]
WALKERS = ["list", "tuple", "dict", "sorted", "sum", "any", "all", "enumerate", "zip", "min", "max"]

UNDERSCORED = ["__init__", "__eq__", "__repr__", "__str__", "__len__"]


def package_files():
    return sorted(PACKAGE.rglob("*.py"))


def trees():
    return [(path, ast.parse(path.read_text(encoding="utf-8"))) for path in package_files()]


def bound_names(tree):
    for node in ast.walk(tree):
        if isinstance(node, (ast.FunctionDef, ast.ClassDef)):
            yield node.name
        elif isinstance(node, ast.Name) and isinstance(node.ctx, ast.Store):
            yield node.id
        elif isinstance(node, ast.arg):
            yield node.arg
        elif isinstance(node, ast.Attribute):
            yield node.attr


def is_walked_at_once(call):
    if not isinstance(call, ast.Call):
        return False
    if isinstance(call.func, ast.Attribute):
        return call.func.attr in WALKED_METHODS
    return isinstance(call.func, ast.Name) and call.func.id in WALKED_NAMES


def walking_places(tree):
    for node in ast.walk(tree):
        if isinstance(node, (ast.For, ast.comprehension)):
            yield node.iter
        elif isinstance(node, ast.Call) and isinstance(node.func, ast.Name) and node.func.id in WALKERS:
            yield from node.args if node.func.id == "zip" else node.args[:1]


def methods_defined():
    return [node.name for path, tree in trees() for node in ast.walk(tree) if isinstance(node, ast.FunctionDef)]


class Files(unittest.TestCase):
    def test_only_python_files_with_plain_names(self):
        for path in PACKAGE.rglob("*"):
            if "__pycache__" not in path.parts:
                self.assertTrue(path.is_dir() or path.suffix == ".py", path)
                self.assertRegex(path.stem, r"\A([a-z][a-z0-9_]*|__init__)\Z")
                self.assertNotIn("test", path.name)
        self.assertTrue((PACKAGE / "__init__.py").is_file())
        self.assertTrue((PACKAGE / "nets.py").is_file())

    def test_signs_and_sizes(self):
        for path in package_files():
            text = path.read_bytes().decode("ascii")
            self.assertRegex(text, r"\A[ -~\n]*\Z", path)
            rows = text.splitlines()
            self.assertLessEqual(len(rows), 400, path)
            self.assertLessEqual(max(len(row) for row in rows), 120, path)

    def test_words_that_stand_nowhere(self):
        for path in package_files():
            text = path.read_text(encoding="utf-8")
            self.assertEqual([word for word in WORDS if re.search(rf"\b{word}\b", text)], [], path)
            self.assertEqual([part for part in PARTS_OF_WORDS if part in text], [], path)


class Code(unittest.TestCase):
    def test_only_the_allowed_parts_of_python(self):
        for path, tree in trees():
            for node in ast.walk(tree):
                self.assertIn(type(node).__name__, NODES, (path, getattr(node, "lineno", None)))

    def test_values_are_whole_numbers_and_texts(self):
        for path, tree in trees():
            for node in ast.walk(tree):
                if isinstance(node, ast.Constant):
                    self.assertIn(type(node.value), [int, str, bool, type(None)], (path, node.lineno))

    def test_functions_are_short_and_plain(self):
        for path, tree in trees():
            for node in ast.walk(tree):
                if isinstance(node, ast.FunctionDef):
                    place = (path, node.name)
                    self.assertLessEqual(node.end_lineno - node.lineno + 1, 40, place)
                    self.assertEqual(node.decorator_list, [], place)
                    self.assertEqual((node.args.vararg, node.args.kwarg, node.args.kwonlyargs), (None, None, []), place)

    def test_imports_are_the_packages_own(self):
        for path, tree in trees():
            for node in ast.walk(tree):
                if isinstance(node, ast.ImportFrom):
                    self.assertEqual((node.level, node.module.split(".")[0]), (0, "lossnets"), path)

    def test_names_are_plain_and_not_pythons_own(self):
        for path, tree in trees():
            for name in bound_names(tree):
                if name not in UNDERSCORED:
                    self.assertRegex(name, r"\A[A-Za-z][A-Za-z0-9_]*\Z", path)
                    self.assertNotIn(name, dir(builtins), path)

    def test_only_the_listed_built_in_names_are_read(self):
        for path, tree in trees():
            for node in ast.walk(tree):
                if isinstance(node, ast.Name) and node.id in dir(builtins):
                    self.assertIn(node.id, OWN_NAMES, (path, node.lineno))

    def test_only_the_listed_methods_are_called(self):
        known = METHODS + methods_defined()
        for path, tree in trees():
            for node in ast.walk(tree):
                if isinstance(node, ast.Call) and isinstance(node.func, ast.Attribute):
                    self.assertIn(node.func.attr, known, (path, node.lineno))

    def test_is_stands_beside_none_true_and_false(self):
        for path, tree in trees():
            for node in ast.walk(tree):
                if isinstance(node, ast.Compare) and any(isinstance(op, (ast.Is, ast.IsNot)) for op in node.ops):
                    right = node.comparators[-1]
                    self.assertTrue(isinstance(right, ast.Constant) and right.value in (None, True, False),
                                    (path, node.lineno))

    def test_top_of_a_file_and_each_name_there_once(self):
        for path, tree in trees():
            names = []
            for node in tree.body[1:]:
                self.assertIsInstance(node, (ast.ImportFrom, ast.FunctionDef, ast.ClassDef, ast.Assign), path)
                names += [name.id for name in node.targets] if isinstance(node, ast.Assign) else []
                names += [node.name] if isinstance(node, (ast.FunctionDef, ast.ClassDef)) else []
            self.assertIsNotNone(ast.get_docstring(tree), path)
            self.assertEqual(sorted(names), sorted(set(names)), path)

    def test_comprehensions_have_one_for_and_at_most_one_if(self):
        for path, tree in trees():
            for node in ast.walk(tree):
                if isinstance(node, ast.ListComp):
                    self.assertEqual(len(node.generators), 1, (path, node.lineno))
                    self.assertLessEqual(len(node.generators[0].ifs), 1, (path, node.lineno))

    def test_exponents_are_written(self):
        for path, tree in trees():
            for node in ast.walk(tree):
                if isinstance(node, ast.BinOp) and isinstance(node.op, ast.Pow):
                    self.assertIsInstance(node.right, ast.Constant, (path, node.lineno))
                    self.assertIn(node.right.value, range(65), (path, node.lineno))

    def test_what_is_to_be_walked_at_once_is_not_kept(self):
        for path, tree in trees():
            places = [id(node) for node in walking_places(tree)]
            for node in ast.walk(tree):
                if is_walked_at_once(node):
                    self.assertIn(id(node), places, (path, node.lineno))

    def test_one_target_in_an_assignment_and_no_else_behind_a_loop(self):
        for path, tree in trees():
            for node in ast.walk(tree):
                if isinstance(node, ast.Assign):
                    self.assertEqual(len(node.targets), 1, (path, node.lineno))
                if isinstance(node, (ast.For, ast.While)):
                    self.assertEqual(node.orelse, [], (path, node.lineno))


if __name__ == "__main__":
    unittest.main()
