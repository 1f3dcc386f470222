"""The package's files keep to the part of Python that is allowed, as far as their form shows it."""

import ast
import builtins
import pathlib
import re
import unittest

PACKAGE = pathlib.Path(__file__).resolve().parent.parent / "versionpick"

NODES = """Module FunctionDef ClassDef arguments arg Return Assign AugAssign For While If Raise Try ExceptHandler
Expr Pass Break Continue ImportFrom alias BoolOp And Or BinOp Add Sub Mult FloorDiv Mod Pow LShift RShift BitOr BitXor
BitAnd UnaryOp Not USub UAdd Invert Lambda IfExp Dict ListComp comprehension Compare Eq NotEq Lt LtE Gt GtE Is IsNot
In NotIn Call keyword Constant Attribute Subscript Slice Name List Tuple Load Store JoinedStr FormattedValue""".split()
OWN_NAMES = """len range enumerate zip min max sum abs sorted reversed int str bool list tuple dict set isinstance ord
repr any all divmod Exception ValueError KeyError IndexError ZeroDivisionError StopIteration""".split()
OWN_METHODS = """append clear copy count endswith extend find get index insert isalnum isalpha isdigit islower isspace
isupper items join keys ljust lower lstrip partition pop remove replace reverse rfind rjust rpartition rsplit rstrip
setdefault split splitlines startswith strip update upper values zfill bit_length""".split()
NO_WORDS = """type typing typing_extensions enum Enum IntEnum StrEnum Flag IntFlag Generic Protocol ABC ABCMeta namedtuple
NamedTuple TypedDict TYPE_CHECKING abstractmethod""".split()
NO_NAMES = """register mro elements open input version_info with_traceback add_note sys os id dir vars super getattr
setattr hasattr delattr eval exec compile globals locals help exit quit license credits copyright format""".split()


def files():
    return sorted(path for path in PACKAGE.rglob("*") if "__pycache__" not in path.parts)


def nodes(kind):
    for path in files():
        for node in ast.walk(ast.parse(path.read_text())):
            if isinstance(node, kind):
                yield path.name, node


def bound_names():
    for name, node in nodes((ast.FunctionDef, ast.ClassDef, ast.arg, ast.Name)):
        if isinstance(node, ast.arg):
            yield name, node.arg
        elif not isinstance(node, ast.Name):
            yield name, node.name
        elif isinstance(node.ctx, ast.Store):
            yield name, node.id


class Files(unittest.TestCase):
    def test_only_plain_files(self):
        names = [path.name for path in files()]
        self.assertIn("__init__.py", names)
        for name in names:
            self.assertRegex(name, r"\A(__init__|[a-z][a-z0-9_]*)\.py\Z")

    def test_signs_and_sizes(self):
        for path in files():
            text = path.read_bytes().decode("ascii")
            self.assertRegex(text, r"\A[ -~\n]*\Z")
            self.assertLessEqual(text.count("\n"), 400)
            self.assertLessEqual(max(len(line) for line in text.split("\n")), 120)

    def test_words(self):
        for path in files():
            words = set(re.findall(r"\w+", path.read_text()))
            self.assertEqual(words & set(NO_WORDS), set(), path)
            self.assertNotRegex(path.read_text(), "dataclass|overload|contextmanager")


class Form(unittest.TestCase):
    def test_nodes(self):
        for name, node in nodes(ast.AST):
            self.assertIn(node.__class__.__name__, NODES, (name, getattr(node, "lineno", None)))

    def test_functions(self):
        for name, node in nodes(ast.FunctionDef):
            self.assertLessEqual(node.end_lineno - node.lineno + 1, 40, (name, node.name))
            self.assertEqual(node.decorator_list, [])
            arguments = node.args
            self.assertFalse(arguments.vararg or arguments.kwarg or arguments.kwonlyargs or arguments.posonlyargs)
            self.assertFalse(node.returns or [arg for arg in arguments.args if arg.annotation])

    def test_classes(self):
        for name, node in nodes(ast.ClassDef):
            self.assertEqual([one.__class__ for one in node.body], [ast.FunctionDef] * len(node.body))
            self.assertEqual(node.decorator_list, [])

    def test_statements(self):
        for name, node in nodes(ast.Assign):
            self.assertEqual(len(node.targets), 1, (name, node.lineno))
        for name, node in nodes((ast.For, ast.While)):
            self.assertEqual(node.orelse, [], (name, node.lineno))
        for name, node in nodes(ast.ListComp):
            self.assertEqual(len(node.generators), 1, (name, node.lineno))
            self.assertLessEqual(len(node.generators[0].ifs), 1, (name, node.lineno))
        for name, node in nodes(ast.Expr):
            if node.lineno > 1:
                self.assertIsInstance(node.value, ast.Call, (name, node.lineno))

    def test_constants(self):
        for name, node in nodes(ast.Constant):
            self.assertIn(node.value.__class__, (int, str, bool, None.__class__), (name, node.lineno))
            if isinstance(node.value, str):
                self.assertNotIn("%", node.value, (name, node.lineno))

    def test_the_top_of_a_file(self):
        for path in files():
            for place, node in enumerate(ast.parse(path.read_text()).body):
                if isinstance(node, ast.Assign):
                    ast.literal_eval(node.value)
                elif place > 0 or not isinstance(node, ast.Expr):
                    self.assertIsInstance(node, (ast.ImportFrom, ast.FunctionDef, ast.ClassDef), path)


class Names(unittest.TestCase):
    def test_imports(self):
        for name, node in nodes(ast.ImportFrom):
            self.assertEqual(node.level, 0, name)
            self.assertRegex(node.module, r"\Aversionpick\.\w+\Z", name)
            self.assertNotIn("*", [alias.name for alias in node.names])

    def test_bound_names(self):
        for file, name in bound_names():
            if name == "__init__":
                continue
            self.assertRegex(name, r"\A[A-Za-z][A-Za-z0-9_]*\Z", file)
            self.assertFalse(hasattr(builtins, name), (file, name))
            self.assertNotIn(name, NO_NAMES, file)

    def test_pythons_own_names(self):
        for name, node in nodes(ast.Name):
            if hasattr(builtins, node.id):
                self.assertIn(node.id, OWN_NAMES, (name, node.lineno))

    def test_methods(self):
        methods = [one.name for name, node in nodes(ast.ClassDef) for one in node.body]
        for name, node in nodes(ast.Call):
            if isinstance(node.func, ast.Attribute):
                self.assertIn(node.func.attr, OWN_METHODS + methods, (name, node.lineno))

    def test_no_name_is_both_a_method_and_a_value(self):
        methods = {one.name for name, node in nodes(ast.ClassDef) for one in node.body}
        for name, node in nodes(ast.Attribute):
            if isinstance(node.ctx, ast.Store):
                self.assertNotIn(node.attr, methods, (name, node.lineno))
                self.assertNotIn(node.attr, NO_NAMES, (name, node.lineno))

    def test_is_stands_beside_none_alone(self):
        for name, node in nodes(ast.Compare):
            if [one for one in node.ops if isinstance(one, (ast.Is, ast.IsNot))]:
                self.assertIsInstance(node.comparators[0], ast.Constant, (name, node.lineno))


if __name__ == "__main__":
    unittest.main()
