"""The rules of the language that a test can see, and that the package uses no clock, chance or files."""

import ast
import builtins
import inspect
import unittest
import warnings
from importlib import import_module
from pathlib import Path

import weighwords

FOLDER = Path(weighwords.__file__).parent

LISTED = {
    "errors": ["WeighError", "Nought", "NoText", "NoRow", "NoMachine", "NoWord", "OtherSigns", "TooMany"],
    "shares": ["is_share", "share", "plus", "less", "times", "over"],
    "notes": ["written", "read"],
    "spans": ["Span"],
    "machines": ["Machine", "rooms", "row_of", "weight", "summed"],
    "building": ["added", "beside", "joined", "scaled", "turned"],
    "comparing": ["compared"],
    "making": ["small", "grounds"],
}

METHODS = {("spans", "Span"): ["__init__", "put", "tells", "many"], ("machines", "Machine"): ["__init__"]}

ARGUMENTS = {
    "is_share": ["thing"], "share": ["top", "bottom"], "plus": ["one", "other"], "less": ["one", "other"],
    "times": ["one", "other"], "over": ["one", "other"], "written": ["part"], "read": ["text"], "Span": ["size"],
    "put": ["self", "row"], "tells": ["self", "row"], "many": ["self"],
    "Machine": ["signs", "begins", "moves", "ends"], "rooms": ["machine"], "row_of": ["machine", "word"],
    "weight": ["machine", "word"], "summed": ["machine", "many"], "added": ["one", "other"], "beside": ["one", "other"],
    "joined": ["one", "other"], "scaled": ["machine", "part"], "turned": ["machine"], "compared": ["one", "other"],
    "small": ["machine"], "grounds": ["machine"],
}

LIBRARY = {"math": {"gcd", "lcm", "isqrt", "comb", "perm", "factorial"}}

BUILTINS = {
    "len", "range", "enumerate", "zip", "min", "max", "sum", "abs", "sorted", "reversed", "int", "str", "bool", "list",
    "tuple", "dict", "set", "isinstance", "ord", "repr", "any", "all", "divmod", "type", "map", "iter", "next",
    "ValueError", "KeyError", "IndexError", "ZeroDivisionError",
}


def files():
    return sorted(FOLDER.glob("*.py"))


def trees():
    return [(path.name, ast.parse(path.read_text("ascii"))) for path in files()]


def nodes(kind):
    return [(name, node) for name, tree in trees() for node in ast.walk(tree) if isinstance(node, kind)]


def names_bound_in(module):
    """The names that the file itself binds at module level, without those that it imports."""
    tree = ast.parse(Path(import_module(module).__file__).read_text("ascii"))
    names = [node.name for node in tree.body if isinstance(node, (ast.FunctionDef, ast.ClassDef))]
    return names + [node.targets[0].id for node in tree.body if isinstance(node, ast.Assign)]


def is_plain(node):
    """Whether what stands there is a number, a text, or a tuple of such."""
    return isinstance(node, ast.Constant) or isinstance(node, ast.Tuple) and all(is_plain(one) for one in node.elts)


class FilesTest(unittest.TestCase):
    def test_the_folder_has_nothing_but_python_files(self):
        for path in FOLDER.iterdir():
            if path.name != "__pycache__":
                self.assertTrue(path.is_file() and path.suffix == ".py", path.name)
        self.assertIn("__init__.py", [path.name for path in files()])

    def test_sizes_and_signs(self):
        for path in files():
            text = path.read_bytes().decode("ascii")
            self.assertTrue(all(sign == "\n" or " " <= sign <= "~" for sign in text), path.name)
            lines = text.split("\n")
            self.assertLessEqual(len(lines), 400, path.name)
            self.assertLessEqual(max(len(line) for line in lines), 120, path.name)

    def test_python_gives_no_warning(self):
        with warnings.catch_warnings():
            warnings.simplefilter("error")
            for path in files():
                compile(path.read_text("ascii"), path.name, "exec")

    def test_functions_have_at_most_forty_lines(self):
        for name, node in nodes(ast.FunctionDef):
            self.assertLessEqual(node.end_lineno - node.lineno + 1, 40, (name, node.name))


class MeansTest(unittest.TestCase):
    def test_imports(self):
        self.assertEqual(nodes(ast.Import), [])
        for name, node in nodes(ast.ImportFrom):
            self.assertEqual(node.level, 0, name)
            for alias in node.names:
                if node.module in LIBRARY:
                    self.assertIn(alias.name, LIBRARY[node.module], name)
                    self.assertIsNone(alias.asname, name)
                else:
                    self.assertTrue(node.module.startswith("weighwords."), (name, node.module))
                    self.assertIn(alias.name, names_bound_in(node.module), (name, alias.name))

    def test_builtins(self):
        for name, node in nodes(ast.Name):
            if hasattr(builtins, node.id):
                self.assertIn(node.id, BUILTINS, (name, node.lineno))

    def test_no_floats_and_no_true_division(self):
        for name, node in nodes(ast.Constant):
            self.assertNotIsInstance(node.value, (float, complex), (name, node.lineno))
        for name, node in nodes((ast.BinOp, ast.AugAssign)):
            self.assertNotIsInstance(node.op, ast.Div, (name, node.lineno))

    def test_no_state_at_module_level(self):
        allowed = (ast.Expr, ast.ImportFrom, ast.FunctionDef, ast.ClassDef, ast.Assign)
        for name, tree in trees():
            for node in tree.body:
                self.assertIsInstance(node, allowed, (name, node.lineno))
                if isinstance(node, (ast.Expr, ast.Assign)):
                    self.assertTrue(is_plain(node.value), (name, node.lineno))
        self.assertEqual(nodes((ast.Global, ast.Nonlocal)), [])


class InterfaceTest(unittest.TestCase):
    def test_each_name_is_defined_in_its_file(self):
        for module, names in LISTED.items():
            held = import_module("weighwords." + module)
            for name in names:
                self.assertEqual(getattr(held, name).__module__, held.__name__, name)
                if name in ARGUMENTS:
                    self.assertEqual(list(inspect.signature(getattr(held, name)).parameters), ARGUMENTS[name])

    def test_each_method_is_defined_in_its_class(self):
        for (module, kind), methods in METHODS.items():
            for method in methods:
                own = vars(getattr(import_module("weighwords." + module), kind))[method]
                self.assertTrue(inspect.isfunction(own), method)
                if method in ARGUMENTS:
                    self.assertEqual(list(inspect.signature(own).parameters), ARGUMENTS[method])


if __name__ == "__main__":
    unittest.main()
