"""That the package keeps to the part of Python that it is written in."""

import ast
import builtins
import pathlib
import re
import unittest

PACKAGE = pathlib.Path(__file__).resolve().parent.parent / "turnpack"

# The package needs less than the language rules allow; what is not needed is not listed here.
STATEMENTS = (ast.Assign, ast.AugAssign, ast.If, ast.While, ast.For, ast.Return, ast.Break, ast.Continue, ast.Pass,
              ast.Raise, ast.Expr, ast.FunctionDef, ast.ClassDef, ast.ImportFrom)
EXPRESSIONS = (ast.BoolOp, ast.BinOp, ast.UnaryOp, ast.Compare, ast.IfExp, ast.Call, ast.Attribute, ast.Subscript,
               ast.Slice, ast.Name, ast.Constant, ast.List, ast.Tuple, ast.Dict, ast.ListComp, ast.Lambda)
OWN_OF_PYTHON = set(
    "len range enumerate zip min max sum abs sorted reversed int str bool list tuple dict set isinstance ord repr"
    " any all divmod Exception ValueError TypeError KeyError IndexError LookupError".split())
METHODS = set(
    "append clear copy count extend find get index insert items join keys pop remove reverse setdefault update"
    " values bit_length".split())
WORDS_OUT = re.compile(
    r"\b(type|typing|typing_extensions|enum|Enum|IntEnum|StrEnum|Flag|IntFlag|Generic|Protocol|ABC|ABCMeta"
    r"|namedtuple|NamedTuple|TypedDict|TYPE_CHECKING|abstractmethod)\b|dataclass|overload|contextmanager")
WALKED = ("zip", "enumerate", "reversed", "range", "items", "keys", "values")
WALKERS = ("list", "tuple", "dict", "sorted", "sum", "any", "all", "enumerate", "zip")


def called(node):
    """The name by which something is called."""
    if isinstance(node, ast.Call):
        return node.func.id if isinstance(node.func, ast.Name) else getattr(node.func, "attr", None)
    return None


def names_bound(tree):
    """Each name that is given a meaning, but methods and values of objects."""
    names = []
    for node in ast.walk(tree):
        if isinstance(node, ast.Name) and isinstance(node.ctx, ast.Store):
            names.append(node.id)
        elif isinstance(node, ast.arg):
            names.append(node.arg)
        elif isinstance(node, ast.ImportFrom):
            names.extend(alias.asname or alias.name for alias in node.names)
    for node in tree.body:
        if isinstance(node, (ast.FunctionDef, ast.ClassDef)):
            names.append(node.name)
    return names


class Form(unittest.TestCase):
    def setUp(self):
        self.sources = {path: path.read_text("utf-8") for path in sorted(PACKAGE.glob("*.py"))}
        self.trees = {path: ast.parse(source) for path, source in self.sources.items()}

    def nodes(self):
        for path, tree in self.trees.items():
            for node in ast.walk(tree):
                yield f"{path.name}:{getattr(node, 'lineno', 0)}", node

    def test_nothing_else_lies_in_the_package(self):
        found = [path.name for path in PACKAGE.iterdir() if path.name != "__pycache__"]
        self.assertIn("__init__.py", found)
        for name in found:
            self.assertRegex(name, r"^(__init__|[a-z][a-z0-9_]*)\.py$")
            self.assertNotIn(name[:-3], dir(builtins))

    def test_sizes_and_signs(self):
        for path, source in self.sources.items():
            self.assertLessEqual(len(source.splitlines()), 400, path)
            self.assertIsNone(WORDS_OUT.search(source), path)
            self.assertIsNone(re.search(r"[^\n -~]", source), path)
            for line in source.splitlines():
                self.assertLessEqual(len(line), 120, path)
        for where, node in self.nodes():
            if isinstance(node, ast.FunctionDef):
                self.assertLessEqual(node.end_lineno - node.lineno + 1, 40, where)
                self.assertEqual(node.decorator_list, [], where)
                rest = node.args
                self.assertFalse(rest.vararg or rest.kwarg or rest.kwonlyargs or rest.posonlyargs, where)

    def test_statements_and_expressions(self):
        for where, node in self.nodes():
            if isinstance(node, ast.stmt):
                self.assertIsInstance(node, STATEMENTS, where)
            if isinstance(node, ast.expr):
                self.assertIsInstance(node, EXPRESSIONS, where)
            if isinstance(node, ast.Constant):
                self.assertIn(type(node.value), (int, str, bool, type(None)), where)
            if isinstance(node, (ast.For, ast.While)):
                self.assertEqual(node.orelse, [], where)
            if isinstance(node, ast.Assign):
                self.assertEqual(len(node.targets), 1, where)
                self.assertNotIsInstance(node.targets[0], ast.Tuple, where)
            if isinstance(node, ast.BinOp):
                self.assertNotIsInstance(node.op, (ast.Div, ast.MatMult), where)
            if isinstance(node, ast.BinOp) and isinstance(node.op, ast.Pow):
                self.assertIsInstance(node.right, ast.Constant, where)
            if isinstance(node, ast.ListComp):
                self.assertEqual(len(node.generators), 1, where)

    def test_imports_are_the_packages_own(self):
        drawn = {}
        for path, tree in self.trees.items():
            drawn[f"turnpack.{path.stem}"] = []
            for node in ast.walk(tree):
                if isinstance(node, ast.ImportFrom):
                    self.assertIn(node, tree.body, path)
                    self.assertEqual(node.level, 0, path)
                    self.assertTrue((PACKAGE / f"{node.module.split('.')[-1]}.py").exists(), path)
                    drawn[f"turnpack.{path.stem}"].append(node.module)
        # Files are taken away as soon as they draw from none that is left: a circle would stay.
        while drawn:
            free = [name for name, others in drawn.items() if not set(others) & set(drawn)]
            self.assertTrue(free, drawn)
            for name in free:
                drawn.pop(name)

    def test_the_top_of_a_file(self):
        for path, tree in self.trees.items():
            self.assertIsInstance(ast.get_docstring(tree), str, path)
            for node in tree.body[1:]:
                self.assertIsInstance(node, (ast.ImportFrom, ast.FunctionDef, ast.ClassDef, ast.Assign), path)
                if isinstance(node, ast.Assign):
                    ast.literal_eval(node.value)

    def test_names(self):
        for path, tree in self.trees.items():
            bound = names_bound(tree)
            for name in bound:
                self.assertRegex(name, r"^[A-Za-z][A-Za-z0-9_]*$", path)
                self.assertNotIn(name, dir(builtins), path)
            for node in ast.walk(tree):
                if isinstance(node, ast.Name) and node.id not in bound:
                    self.assertIn(node.id, OWN_OF_PYTHON, path)

    def test_methods(self):
        own = [node.name for where, node in self.nodes() if isinstance(node, ast.FunctionDef)]
        for where, node in self.nodes():
            if isinstance(node, ast.Call) and isinstance(node.func, ast.Attribute):
                self.assertIn(node.func.attr, METHODS | set(own), where)

    def test_walked_at_once(self):
        for where, node in self.nodes():
            allowed = []
            if isinstance(node, (ast.For, ast.comprehension)):
                allowed = [node.iter]
            elif called(node) in WALKERS:
                allowed = node.args if called(node) == "zip" else node.args[:1]
            for child in ast.iter_child_nodes(node):
                if called(child) in WALKED:
                    self.assertIn(child, allowed, where)
            if called(node) == "sorted":
                continue
            for child in ast.iter_child_nodes(node):
                if called(child) == "set":
                    self.assertTrue(isinstance(node, ast.Compare) or called(node) == "len", where)


if __name__ == "__main__":
    unittest.main()
