"""The form of the package's files, as far as it can be seen from the written code."""

import ast
import builtins
import pathlib
import re
import unittest

PACKAGE = pathlib.Path(__file__).resolve().parent.parent / "struckdeeds"
FILES = sorted(PACKAGE.glob("*.py"))
ALLOWED_NAMES = set(
    "len range enumerate zip min max sum abs sorted reversed int str bool bytes list tuple dict set frozenset "
    "isinstance ord repr any all divmod Exception ValueError TypeError KeyError IndexError LookupError "
    "ZeroDivisionError ArithmeticError OverflowError RuntimeError NotImplementedError AttributeError "
    "StopIteration".split())
ALLOWED_METHODS = set("__init__ __eq__ __repr__ __str__ __len__".split())
PYTHONS_METHODS = set(
    "append clear copy count endswith extend find get index insert isalnum isalpha isdigit islower isspace isupper "
    "items join keys ljust lower lstrip partition pop remove replace reverse rfind rjust rpartition rsplit rstrip "
    "setdefault split splitlines startswith strip update upper values zfill bit_length".split())
BARRED_WORDS = re.compile(
    r"\b(type|typing|typing_extensions|enum|Enum|IntEnum|StrEnum|Flag|IntFlag|Generic|Protocol|ABC|ABCMeta|namedtuple"
    r"|NamedTuple|TypedDict|TYPE_CHECKING|abstractmethod)\b|dataclass|overload|contextmanager")
BARRED_NODES = (
    ast.With, ast.Match, ast.Global, ast.Nonlocal, ast.Yield, ast.YieldFrom, ast.AsyncFunctionDef, ast.AsyncFor,
    ast.AsyncWith, ast.Await, ast.GeneratorExp, ast.NamedExpr, ast.Import, ast.Div, ast.MatMult)


def nodes(file, *kinds):
    return [node for node in ast.walk(ast.parse(file.read_text())) if isinstance(node, kinds)]


def given_names(file):
    """Every name that a file gives: parameters, locals, defs, classes, values of objects."""
    names = [node.arg for node in nodes(file, ast.arg)]
    names += [node.id for node in nodes(file, ast.Name) if isinstance(node.ctx, ast.Store)]
    names += [node.name for node in nodes(file, ast.FunctionDef, ast.ClassDef)]
    return names + [node.attr for node in nodes(file, ast.Attribute) if isinstance(node.ctx, ast.Store)]


def drawn_files(file):
    """The files from which a file draws names."""
    return [PACKAGE / (row.module.split(".")[1] + ".py") for row in nodes(file, ast.ImportFrom)]


def methods():
    """The names of all methods of the package."""
    return {node.name for file in FILES for kind in nodes(file, ast.ClassDef) for node in kind.body
            if isinstance(node, ast.FunctionDef)}


def values():
    """The names of all values that objects of the package are given."""
    return {node.attr for file in FILES for node in nodes(file, ast.Attribute) if isinstance(node.ctx, ast.Store)}


def each_file(test):
    """The test, asked of every file of the package."""
    def asked(self):
        for file in FILES:
            with self.subTest(file.name):
                test(self, file)
    return asked


class FormTest(unittest.TestCase):

    def test_nothing_else_lies_in_the_package(self):
        self.assertIn("__init__.py", [file.name for file in FILES])
        others = [path.name for path in PACKAGE.iterdir() if path not in FILES and path.name != "__pycache__"]
        self.assertEqual(others, [])

    @each_file
    def test_file_names(self, file):
        self.assertRegex(file.name, r"^(__init__|[a-z][a-z0-9_]*)\.py$")

    @each_file
    def test_sizes_and_signs(self, file):
        rows = file.read_bytes().decode("ascii").split("\n")
        self.assertLessEqual(len(rows), 400)
        for row in rows:
            self.assertLessEqual(len(row), 120)
            self.assertRegex(row, r"^[ -~]*$")
        for node in nodes(file, ast.FunctionDef):
            self.assertLessEqual(node.end_lineno - node.lineno + 1, 40, node.name)

    @each_file
    def test_barred_words(self, file):
        self.assertIsNone(BARRED_WORDS.search(file.read_text()))

    @each_file
    def test_imports_are_the_packages_own_and_at_the_top(self, file):
        top = ast.parse(file.read_text()).body
        rows = nodes(file, ast.ImportFrom)
        self.assertEqual(len(rows), len([node for node in top if isinstance(node, ast.ImportFrom)]))
        for row in rows:
            self.assertRegex(row.module, r"^struckdeeds\.[a-z]+$")
            self.assertEqual(row.level, 0)
            drawn = PACKAGE / (row.module.split(".")[1] + ".py")
            for name in row.names:
                self.assertIn(name.name, [node.name for node in ast.parse(drawn.read_text()).body
                                          if isinstance(node, (ast.FunctionDef, ast.ClassDef))])

    @each_file
    def test_the_top_of_a_file(self, file):
        kinds = (ast.Expr, ast.ImportFrom, ast.FunctionDef, ast.ClassDef, ast.Assign)
        top = ast.parse(file.read_text()).body
        self.assertTrue(all(isinstance(node, kinds) for node in top))
        self.assertIsNotNone(ast.get_docstring(ast.parse(file.read_text())))
        names = [name.asname or name.name for node in top if isinstance(node, ast.ImportFrom) for name in node.names]
        names += [node.name for node in top if isinstance(node, (ast.FunctionDef, ast.ClassDef))]
        names += [target.id for node in top if isinstance(node, ast.Assign) for target in node.targets]
        self.assertEqual(sorted(names), sorted(set(names)))

    @each_file
    def test_barred_statements_and_expressions(self, file):
        self.assertEqual(nodes(file, *BARRED_NODES), [])
        for node in nodes(file, ast.FunctionDef):
            self.assertEqual(node.decorator_list, [])
            self.assertIsNone(node.args.vararg or node.args.kwarg)
        for node in nodes(file, ast.For, ast.While):
            self.assertEqual(node.orelse, [])
        for node in nodes(file, ast.Constant):
            self.assertNotIsInstance(node.value, (float, complex))
            if isinstance(node.value, str):
                self.assertNotIn("%", node.value)
        for node in nodes(file, ast.Compare):
            if any(isinstance(sign, (ast.Is, ast.IsNot)) for sign in node.ops):
                self.assertIsInstance(node.comparators[0], ast.Constant)

    @each_file
    def test_names(self, file):
        own = set(dir(builtins))
        for name in given_names(file):
            self.assertTrue(name in ALLOWED_METHODS or re.match(r"^[A-Za-z][A-Za-z0-9_]*$", name), name)
            self.assertNotIn(name, own)
        for node in nodes(file, ast.Name):
            if node.id in own:
                self.assertIn(node.id, ALLOWED_NAMES)

    @each_file
    def test_no_local_is_called_like_an_import_or_a_def(self, file):
        top = ast.parse(file.read_text()).body
        taken = {name.name for node in top if isinstance(node, ast.ImportFrom) for name in node.names}
        taken |= {node.name for node in top if isinstance(node, (ast.FunctionDef, ast.ClassDef))}
        for node in nodes(file, ast.FunctionDef):
            stored = {name.id for name in ast.walk(node)
                      if isinstance(name, ast.Name) and isinstance(name.ctx, ast.Store)}
            stored |= {name.arg for name in ast.walk(node) if isinstance(name, ast.arg)}
            self.assertEqual(stored & taken, set())

    @each_file
    def test_no_file_draws_from_itself_in_whatever_steps(self, file):
        drawn = drawn_files(file)
        for other in drawn:
            drawn += [further for further in drawn_files(other) if further not in drawn]
        self.assertNotIn(file, drawn)

    def test_no_name_is_a_method_here_and_a_value_there(self):
        self.assertEqual(methods() & values(), set())
        own = set(dir("") + dir(0) + dir([]) + dir({}) + dir(set()) + dir(b"")) - ALLOWED_METHODS
        self.assertEqual((methods() | values()) & own, set())

    @each_file
    def test_values_and_methods_that_are_asked(self, file):
        called = [node.func for node in nodes(file, ast.Call) if isinstance(node.func, ast.Attribute)]
        for node in called:
            self.assertIn(node.attr, methods() | PYTHONS_METHODS)
        places = [(node.lineno, node.col_offset, node.attr) for node in called]
        for node in nodes(file, ast.Attribute):
            if (node.lineno, node.col_offset, node.attr) not in places:
                self.assertIn(node.attr, values())


if __name__ == "__main__":
    unittest.main()
