"""The package keeps to the small part of Python it is to be written in, as far as can be seen mechanically."""

import ast
import builtins
import pathlib
import re
import unittest

ROOT = pathlib.Path(__file__).resolve().parent.parent
PACKAGE = ROOT / "disputation"

NODES = {
    "Module", "Expr", "Constant", "ImportFrom", "alias", "FunctionDef", "ClassDef", "arguments", "arg", "Return",
    "Assign", "If", "While", "For", "Break", "Continue", "Pass", "Raise", "Try", "ExceptHandler", "Call", "Name",
    "Attribute", "Subscript", "Slice", "Tuple", "List", "Dict", "Load", "Store", "BinOp", "UnaryOp", "BoolOp",
    "Compare", "IfExp", "ListComp", "comprehension", "JoinedStr", "FormattedValue", "Lambda", "AugAssign", "keyword",
    "Add", "Sub", "Mult", "FloorDiv", "Mod", "Pow", "BitAnd", "BitOr", "BitXor", "LShift", "RShift", "Invert", "USub",
    "Not", "And", "Or", "Eq", "NotEq", "Lt", "LtE", "Gt", "GtE", "Is", "IsNot", "In", "NotIn",
}
OWN_NAMES = set(
    "len range enumerate zip min max sum abs sorted reversed int str bool list tuple dict set frozenset isinstance ord "
    "repr any all divmod Exception ValueError TypeError KeyError IndexError LookupError ZeroDivisionError "
    "ArithmeticError OverflowError RuntimeError NotImplementedError AttributeError StopIteration".split()
)
OWN_METHODS = set(
    "append clear copy count endswith extend find get index insert isalnum isalpha isdigit islower isspace isupper "
    "items join keys ljust lower lstrip partition pop remove replace reverse rfind rjust rpartition rsplit rstrip "
    "setdefault split splitlines startswith strip update upper values zfill bit_length".split()
)
WORDS = (
    r"\b(type|typing|typing_extensions|enum|Enum|IntEnum|StrEnum|Flag|IntFlag|Generic|Protocol|ABC|ABCMeta|namedtuple|"
    r"NamedTuple|TypedDict|TYPE_CHECKING|abstractmethod)\b|dataclass|overload|contextmanager"
)
UNUSED = set(
    "register mro elements open input version_info with_traceback add_note attrgetter breakpoint builtins compile "
    "copyright credits delattr dir eval exec exit gc getattr globals hasattr help id importlib license locals "
    "methodcaller os quit setattr super vars sys chr print format format_map".split()
)


def files():
    return sorted(PACKAGE.glob("*.py"))


def trees():
    return [(path, ast.parse(path.read_text())) for path in files()]


def nodes(tree, *kinds):
    return [node for node in ast.walk(tree) if isinstance(node, kinds)]


def top_names(tree):
    names = []
    for node in tree.body:
        if isinstance(node, (ast.FunctionDef, ast.ClassDef)):
            names.append(node.name)
        elif isinstance(node, ast.ImportFrom):
            names.extend(alias.name for alias in node.names)
        elif isinstance(node, ast.Assign):
            names.append(node.targets[0].id)
    return names


def imported(tree):
    return [alias.name for node in nodes(tree, ast.ImportFrom) for alias in node.names]


def local_names(tree):
    """Parameters, and all that's bound within a function."""
    found = []
    for function in nodes(tree, ast.FunctionDef):
        found.extend(arg.arg for arg in function.args.args)
        found.extend(node.id for node in nodes(function, ast.Name) if isinstance(node.ctx, ast.Store))
    return found


class Language(unittest.TestCase):
    def test_files(self):
        for path in PACKAGE.rglob("*"):
            if "__pycache__" not in path.parts:
                self.assertRegex(path.name, r"^[a-z_][a-z0-9_]*\.py$")
        self.assertIn("__init__.py", [path.name for path in files()])
        for path in files():
            text = path.read_bytes().decode("ascii")
            self.assertNotIn("\t", text)
            self.assertNotIn("\r", text)
            lines = text.splitlines()
            self.assertLessEqual(len(lines), 400, path)
            self.assertLessEqual(max(len(line) for line in lines), 120, path)
            self.assertIsNone(re.search(WORDS, text), path)

    def test_nodes(self):
        for path, tree in trees():
            for node in ast.walk(tree):
                self.assertIn(type(node).__name__, NODES, (path, getattr(node, "lineno", 0)))

    def test_sizes(self):
        for path, tree in trees():
            for node in nodes(tree, ast.FunctionDef):
                self.assertLessEqual(node.end_lineno - node.lineno + 1, 40, (path, node.name))
                self.assertEqual(node.decorator_list, [])
                self.assertIsNone(node.args.vararg or node.args.kwarg or node.returns)
                self.assertEqual(node.args.kwonlyargs, [])

    def test_assignments(self):
        for path, tree in trees():
            for node in nodes(tree, ast.Assign):
                self.assertEqual(len(node.targets), 1, (path, node.lineno))
                self.assertIsInstance(node.targets[0], (ast.Name, ast.Attribute, ast.Subscript), (path, node.lineno))
            for node in nodes(tree, ast.For, ast.While):
                self.assertEqual(node.orelse, [], (path, node.lineno))
            for node in nodes(tree, ast.ListComp):
                self.assertEqual(len(node.generators), 1)
                self.assertLessEqual(len(node.generators[0].ifs), 1)

    def test_top(self):
        for path, tree in trees():
            for node in tree.body[1:]:
                self.assertIsInstance(node, (ast.ImportFrom, ast.FunctionDef, ast.ClassDef, ast.Assign), path)
            self.assertIsInstance(tree.body[0].value.value, str, path)
            names = top_names(tree)
            self.assertEqual(len(names), len(set(names)), path)

    def test_imports(self):
        defined = {f"disputation.{path.stem}": top_names(tree) for path, tree in trees()}
        drawn = {}
        for path, tree in trees():
            drawn[f"disputation.{path.stem}"] = []
            for node in nodes(tree, ast.ImportFrom):
                self.assertEqual(node.level, 0)
                self.assertIn(node.module, defined)
                drawn[f"disputation.{path.stem}"].append(node.module)
                source = ast.parse((ROOT / (node.module.replace(".", "/") + ".py")).read_text())
                for alias in node.names:
                    self.assertIn(alias.name, defined[node.module])
                    self.assertNotIn(alias.name, imported(source), "drawn from where it's defined")
                    self.assertIsNone(alias.asname)
        while drawn:
            free = [name for name, modules in drawn.items() if not any(module in drawn for module in modules)]
            self.assertTrue(free, "files draw from one another in a ring")
            drawn = {name: modules for name, modules in drawn.items() if name not in free}

    def test_names(self):
        for path, tree in trees():
            bound = set(top_names(tree)) | set(local_names(tree))
            for node in nodes(tree, ast.Name):
                self.assertTrue(node.id in bound or node.id in OWN_NAMES, (path, node.lineno, node.id))
            for name in bound:
                self.assertNotIn(name, UNUSED)
                self.assertFalse(hasattr(builtins, name), (path, name))
                self.assertRegex(name, r"^[A-Za-z][A-Za-z0-9_]*$")
            classes = [node.name for node in nodes(tree, ast.ClassDef)]
            for name in local_names(tree):
                self.assertNotIn(name, imported(tree) + classes, path)

    def test_methods_and_values(self):
        methods, values = set(), set()
        for path, tree in trees():
            for node in nodes(tree, ast.ClassDef):
                methods.update(part.name for part in node.body if isinstance(part, ast.FunctionDef))
            values.update(n.attr for n in nodes(tree, ast.Attribute) if isinstance(n.ctx, ast.Store))
        self.assertEqual(methods & values, set())
        for name in (methods | values) - {"__init__"}:
            self.assertFalse(any(hasattr(kind, name) for kind in (str, int, list, tuple, dict, set, bytes)), name)
        for path, tree in trees():
            for node in nodes(tree, ast.Attribute):
                self.assertIn(node.attr, methods | values | OWN_METHODS, (path, node.lineno))
                self.assertNotIn(node.attr, UNUSED)

    def test_walked_at_once(self):
        for path, tree in trees():
            walked = []
            for node in nodes(tree, ast.For, ast.comprehension):
                walked.append(node.iter)
            for node in nodes(tree, ast.Call):
                name = getattr(node.func, "id", "")
                if name in ("list", "tuple", "dict", "sorted", "sum", "any", "all", "enumerate", "zip", "min", "max"):
                    walked.append(node.args[0])
            for node in nodes(tree, ast.Call):
                name = getattr(node.func, "id", getattr(node.func, "attr", ""))
                if name in ("zip", "enumerate", "reversed", "range", "items", "keys", "values"):
                    self.assertIn(node, walked, (path, node.lineno))

    def test_signs(self):
        for path, tree in trees():
            for node in nodes(tree, ast.Compare):
                for sign, right in zip(node.ops, node.comparators):
                    if isinstance(sign, (ast.Is, ast.IsNot)):
                        self.assertIn(ast.unparse(right), ("None", "True", "False"), (path, node.lineno))
            for node in nodes(tree, ast.Pow):
                self.fail(path)
            for node in nodes(tree, ast.Constant):
                self.assertIn(type(node.value), (int, str, bool, type(None)), (path, node.lineno))


if __name__ == "__main__":
    unittest.main()
