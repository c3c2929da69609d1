"""What LANGUAGE.md asks of the package's files, as far as a small look at them can tell."""

import ast
import builtins
import pathlib
import re
import unittest
import warnings

FOLDER = pathlib.Path(__file__).resolve().parent.parent / "tablebills"
FILES = sorted(FOLDER.glob("*.py"))

# L17, and the builtins and methods of L8 (less chr, L27; bytes, L7) and L25.
BARRED_WORDS = ("type", "typing", "typing_extensions", "enum", "Enum", "IntEnum", "StrEnum", "Flag", "IntFlag",
                "Generic", "Protocol", "ABC", "ABCMeta", "namedtuple", "NamedTuple", "TypedDict", "TYPE_CHECKING",
                "abstractmethod")
BARRED_PARTS = ("dataclass", "overload", "contextmanager")
BUILTINS = """len range enumerate zip min max sum abs sorted reversed int str bool list tuple dict set isinstance ord
 repr any all divmod ValueError TypeError KeyError IndexError LookupError ZeroDivisionError""".split()
METHODS = """append clear copy count endswith extend find get index insert isalnum isalpha isdigit islower isspace
 isupper items join keys ljust lower lstrip partition pop remove replace reverse rfind rjust rpartition rsplit rstrip
 setdefault split splitlines startswith strip update upper values zfill bit_length""".split()
WHOLE_LIST_TAKERS = ("any", "all", "min", "max", "sum", "sorted")
BARRED_NODES = (ast.Global, ast.AsyncFunctionDef, ast.Div, ast.Await, ast.Import)
MODULE_LEVEL = (ast.Expr, ast.ImportFrom, ast.FunctionDef, ast.ClassDef, ast.Assign)


def nodes_of(path):
    return list(ast.walk(ast.parse(path.read_text())))


def own_methods():
    return [row.name for path in FILES for row in methods_of(path)]


def bound_names(node):
    """The names that this node gives a meaning to."""
    if isinstance(node, (ast.FunctionDef, ast.ClassDef)):
        return [node.name]
    if isinstance(node, ast.arg):
        return [node.arg]
    if isinstance(node, ast.Name) and isinstance(node.ctx, ast.Store):
        return [node.id]
    if isinstance(node, ast.alias):
        return [node.asname or node.name]
    return []


def methods_of(path):
    return [row for node in nodes_of(path) if isinstance(node, ast.ClassDef) for row in node.body
            if isinstance(row, ast.FunctionDef)]


def returned(function):
    return [node.value for node in ast.walk(function) if isinstance(node, ast.Return)]


class TestFiles(unittest.TestCase):
    def test_the_folder_holds_plain_files_alone(self):
        for path in FOLDER.iterdir():
            if path.name != "__pycache__":
                self.assertRegex(path.name, r"^(__init__|[a-z][a-z0-9_]*)\.py$")
        self.assertIn(FOLDER / "__init__.py", FILES)

    def test_signs_and_sizes(self):
        for path in FILES:
            text = path.read_bytes().decode("ascii")
            self.assertRegex(text, r"^[ -~\n]*$", path.name)
            self.assertLess(text.count("\n"), 400, path.name)
            self.assertLessEqual(max(map(len, text.split("\n"))), 120, path.name)

    def test_functions_are_short(self):
        for path in FILES:
            for node in nodes_of(path):
                if isinstance(node, ast.FunctionDef):
                    self.assertLessEqual(node.end_lineno - node.lineno + 1, 40, node.name)

    def test_python_warns_of_nothing(self):
        for path in FILES:
            with warnings.catch_warnings():
                warnings.simplefilter("error")
                compile(path.read_text(), path.name, "exec")

    def test_barred_words(self):
        for path in FILES:
            text = path.read_text()
            found = [word for word in re.findall(r"\w+", text) if word in BARRED_WORDS]
            self.assertEqual(found, [], path.name)
            self.assertEqual([part for part in BARRED_PARTS if part in text], [], path.name)


class TestWriting(unittest.TestCase):
    def test_statements(self):
        for path in FILES:
            for row in ast.parse(path.read_text()).body:
                self.assertIsInstance(row, MODULE_LEVEL, path.name)
            for node in nodes_of(path):
                self.assertNotIsInstance(node, BARRED_NODES, path.name)

    def test_imports_are_from_the_defining_file(self):
        for path in FILES:
            for node in nodes_of(path):
                if not isinstance(node, ast.ImportFrom):
                    continue
                self.assertRegex(node.module, r"^tablebills\.[a-z]+$")
                source = FOLDER / (node.module.split(".")[1] + ".py")
                defined = [name for row in ast.parse(source.read_text()).body
                           for name in bound_names(row) + [part.id for part in getattr(row, "targets", [])]]
                for alias in node.names:
                    self.assertIn(alias.name, defined)

    def test_no_two_files_import_from_each_other(self):
        above = {path.stem: {node.module.split(".")[1] for node in nodes_of(path) if isinstance(node, ast.ImportFrom)}
                 for path in FILES}
        # A file that imports nothing of those that are left stands below them; none is left at last.
        while above:
            low = [name for name in above if not above[name] & set(above)]
            self.assertTrue(low, above)
            above = {name: above[name] for name in above if name not in low}

    def test_no_name_is_a_method_and_an_attribute(self):
        attributes = [node for path in FILES for node in nodes_of(path) if isinstance(node, ast.Attribute)]
        stored = {node.attr for node in attributes if isinstance(node.ctx, ast.Store)}
        read = {node.attr for node in attributes if isinstance(node.ctx, ast.Load)}
        methods = set(own_methods()) | set(METHODS)
        self.assertEqual(stored & methods, set())
        self.assertEqual(read - stored - methods, set())

    def test_names(self):
        for path in FILES:
            nodes = nodes_of(path)
            imported = [alias.name for node in nodes if isinstance(node, ast.ImportFrom) for alias in node.names]
            for node in nodes:
                for name in bound_names(node):
                    if not re.match(r"^__(init|eq|len|str|repr)__$", name):
                        self.assertRegex(name, r"^[A-Za-z]", path.name)
                    self.assertNotIn(name, dir(builtins), path.name)
                    self.assertTrue(isinstance(node, ast.alias) or name not in imported, (path.name, name))

    def test_literals(self):
        for path in FILES:
            for node in nodes_of(path):
                if isinstance(node, ast.Constant):
                    self.assertNotIsInstance(node.value, (float, complex, bytes), path.name)
                    self.assertNotIn("%", str(node.value), path.name)

    def test_is_and_powers(self):
        for path in FILES:
            for node in nodes_of(path):
                if isinstance(node, ast.Compare) and any(isinstance(sign, (ast.Is, ast.IsNot)) for sign in node.ops):
                    self.assertIn(getattr(node.comparators[0], "value", 0), (None, True, False))
                if isinstance(node, ast.BinOp) and isinstance(node.op, ast.Pow):
                    self.assertIsInstance(node.right, ast.Constant)

    def test_calls(self):
        methods = METHODS + own_methods()
        for path in FILES:
            for node in nodes_of(path):
                if not isinstance(node, ast.Call):
                    continue
                if isinstance(node.func, ast.Attribute):
                    self.assertIn(node.func.attr, methods, path.name)
                elif isinstance(node.func, ast.Name) and node.func.id in dir(builtins):
                    self.assertIn(node.func.id, BUILTINS, path.name)
                    if node.func.id in WHOLE_LIST_TAKERS:
                        self.assertNotIsInstance(node.args[0], ast.GeneratorExp, path.name)


class TestClasses(unittest.TestCase):
    """L5, L28"""

    def test_what_double_underscore_methods_return(self):
        for path in FILES:
            for method in methods_of(path):
                values = returned(method)
                if method.name == "__init__":
                    self.assertEqual(values, [], path.name)
                if method.name in ("__len__", "__str__", "__repr__"):
                    self.assertIsInstance(method.body[-1], ast.Return, path.name)
                for value in values:
                    called = value.func.id if isinstance(value, ast.Call) and isinstance(value.func, ast.Name) else ""
                    if method.name == "__len__":
                        self.assertEqual(called, "len", path.name)
                    if method.name in ("__str__", "__repr__"):
                        self.assertTrue(called in ("str", "repr") or isinstance(value, ast.JoinedStr), path.name)

    def test_double_underscore_methods_assign_nothing(self):
        for path in FILES:
            for method in methods_of(path):
                if method.name in ("__eq__", "__len__", "__str__", "__repr__"):
                    for node in ast.walk(method):
                        self.assertNotIsInstance(node, (ast.Assign, ast.AugAssign, ast.AnnAssign, ast.Delete), path.name)

    def test_classes_are_called_or_asked_for(self):
        names = {node.name for path in FILES for node in nodes_of(path) if isinstance(node, ast.ClassDef)}
        for path in FILES:
            nodes = nodes_of(path)
            let = [node.func for node in nodes if isinstance(node, ast.Call)]
            let += [base for node in nodes if isinstance(node, ast.ClassDef) for base in node.bases]
            let += [node.args[1] for node in nodes if isinstance(node, ast.Call)
                    and isinstance(node.func, ast.Name) and node.func.id == "isinstance"]
            let += [node.type for node in nodes if isinstance(node, ast.ExceptHandler)]
            for node in nodes:
                if isinstance(node, ast.Name) and node.id in names:
                    self.assertIn(node, let, (path.name, node.id))


if __name__ == "__main__":
    unittest.main()
