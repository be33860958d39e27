"""The rules for the package's own code that a look at its files can tell (L1 to L27, as far as they go)."""

import ast
import builtins
import pathlib
import re
import unittest

ROOT = pathlib.Path(__file__).resolve().parent.parent
PACKAGE = ROOT / "fewcounters"
FILES = sorted(path for path in PACKAGE.rglob("*") if path.is_file() and "__pycache__" not in path.parts)

OWN_NAMES = """len range enumerate zip min max sum abs sorted reversed int str bool list tuple dict set frozenset
isinstance ord repr any all divmod Exception ValueError TypeError KeyError IndexError LookupError ZeroDivisionError
ArithmeticError OverflowError RuntimeError NotImplementedError StopIteration""".split()

OWN_METHODS = """append clear copy count endswith extend find get index insert isalnum isalpha isdigit islower isspace
isupper items join keys ljust lower lstrip partition pop remove replace reverse rfind rjust rpartition rsplit rstrip
setdefault split splitlines startswith strip update upper values zfill bit_length""".split()

NODES = """Module FunctionDef arguments arg ClassDef Return Assign AugAssign For While If Raise Try ExceptHandler
ImportFrom alias Expr Pass Break Continue BoolOp And Or BinOp Add Sub Mult FloorDiv Mod Pow LShift RShift BitOr BitXor
BitAnd UnaryOp Not USub UAdd Invert Lambda IfExp Dict ListComp comprehension Compare Eq NotEq Lt LtE Gt GtE Is IsNot
In NotIn Call keyword JoinedStr FormattedValue Constant Attribute Subscript Slice Name Load Store List Tuple""".split()

WORDS = """type typing typing_extensions enum Enum IntEnum StrEnum Flag IntFlag Generic Protocol ABC ABCMeta namedtuple
NamedTuple TypedDict TYPE_CHECKING abstractmethod""".split()
WITHIN = ["dataclass", "overload", "contextmanager"]


def tree_of(path):
    return ast.parse(path.read_text(encoding="ascii"))


def nodes(path, kinds):
    return [node for node in ast.walk(tree_of(path)) if isinstance(node, kinds)]


def bound_names(path):
    """Names that a file gives a meaning: defs, classes, parameters, imports, targets."""
    found = [node.name for node in nodes(path, (ast.FunctionDef, ast.ClassDef))]
    found += [node.arg for node in nodes(path, ast.arg)]
    found += [node.asname or node.name for node in nodes(path, ast.alias)]
    return found + [node.id for node in nodes(path, ast.Name) if isinstance(node.ctx, ast.Store)]


def methods_and_values():
    found = []
    for path in FILES:
        found += [node.name for node in nodes(path, ast.FunctionDef)]
        found += [node.attr for node in nodes(path, ast.Attribute) if isinstance(node.ctx, ast.Store)]
    return found


def walks_on_the_spot(node, parent):
    """Whether a zip, range or its like stands where it is walked at once."""
    if isinstance(parent, (ast.For, ast.comprehension)):
        return parent.iter is node
    if not isinstance(parent, ast.Call) or not parent.args or parent.args[0] is not node:
        return False
    if isinstance(parent.func, ast.Attribute):
        return parent.func.attr == "join" and isinstance(parent.func.value, ast.Constant)
    if parent.func.id in ("min", "max"):
        return len(parent.args) == 1
    return parent.func.id in ("list", "tuple", "dict", "sorted", "sum", "any", "all", "enumerate", "zip")


def is_walker(node):
    if not isinstance(node, ast.Call):
        return False
    if isinstance(node.func, ast.Attribute):
        return node.func.attr in ("items", "keys", "values")
    return isinstance(node.func, ast.Name) and node.func.id in ("zip", "enumerate", "reversed", "range")


class Language(unittest.TestCase):
    def test_files(self):
        self.assertIn(PACKAGE / "__init__.py", FILES)
        for path in FILES:
            with self.subTest(path.name):
                self.assertRegex(path.name, r"\A([a-z][a-z0-9_]*|__init__|__main__)\.py\Z")

    def test_signs_and_sizes(self):
        for path in FILES:
            with self.subTest(path.name):
                text = path.read_bytes().decode("ascii")
                self.assertRegex(text, r"\A[\n -~]*\Z")
                rows = text.split("\n")
                self.assertLessEqual(len(rows), 401)
                self.assertLessEqual(max(len(row) for row in rows), 120)
                for node in nodes(path, ast.FunctionDef):
                    self.assertLessEqual(node.end_lineno - node.lineno + 1, 40, node.name)

    def test_words(self):
        for path in FILES:
            with self.subTest(path.name):
                text = path.read_text(encoding="ascii")
                words = re.findall(r"[A-Za-z_0-9]+", text)
                self.assertEqual([word for word in words if word in WORDS], [])
                self.assertEqual([part for part in WITHIN if part in text], [])

    def test_statements_and_expressions(self):
        for path in FILES:
            with self.subTest(path.name):
                kinds = {node.__class__.__name__ for node in nodes(path, ast.AST)}
                self.assertEqual(sorted(kinds - set(NODES)), [])
                for node in nodes(path, ast.Assign):
                    self.assertEqual(len(node.targets), 1)
                for node in nodes(path, ast.ListComp):
                    self.assertEqual(len(node.generators), 1)
                    self.assertLessEqual(len(node.generators[0].ifs), 1)
                for node in nodes(path, (ast.For, ast.While)):
                    self.assertEqual(node.orelse, [])
                for node in nodes(path, ast.Constant):
                    self.assertIsInstance(node.value, (int, str, bool, None.__class__))
                for node in nodes(path, (ast.FunctionDef, ast.ClassDef)):
                    self.assertEqual(node.decorator_list, [])

    def test_imports(self):
        for path in FILES:
            with self.subTest(path.name):
                for node in nodes(path, ast.ImportFrom):
                    self.assertRegex(node.module, r"\Afewcounters\.[a-z0-9_]+\Z")
                    self.assertEqual(node.level, 0)
                    source = tree_of(PACKAGE / (node.module.split(".")[1] + ".py"))
                    there = [row.name for row in source.body if isinstance(row, (ast.FunctionDef, ast.ClassDef))]
                    there += [row.targets[0].id for row in source.body if isinstance(row, ast.Assign)]
                    self.assertLessEqual({name.name for name in node.names}, set(there))

    def test_names(self):
        for path in FILES:
            with self.subTest(path.name):
                plain = [name for name in bound_names(path) if name != "__init__"]
                self.assertEqual([name for name in plain if not re.fullmatch(r"[A-Za-z][A-Za-z0-9_]*", name)], [])
                self.assertEqual([name for name in plain if hasattr(builtins, name)], [])
                read = [node.id for node in nodes(path, ast.Name)]
                self.assertEqual([name for name in read if hasattr(builtins, name) and name not in OWN_NAMES], [])

    def test_nothing_is_called_like_an_import_or_a_def_of_its_file(self):
        for path in FILES:
            with self.subTest(path.name):
                body = tree_of(path).body
                there = [row.name for row in body if isinstance(row, (ast.FunctionDef, ast.ClassDef))]
                there += [row.targets[0].id for row in body if isinstance(row, ast.Assign)]
                there += [name.name for name in nodes(path, ast.alias)]
                self.assertEqual(len(there), len(set(there)))
                inner = [node.arg for node in nodes(path, ast.arg)]
                inner += [node.id for row in body if isinstance(row, (ast.FunctionDef, ast.ClassDef))
                          for node in ast.walk(row) if isinstance(node, ast.Name) and isinstance(node.ctx, ast.Store)]
                self.assertEqual([name for name in inner if name in there], [])

    def test_methods(self):
        free = OWN_METHODS + methods_and_values()
        for path in FILES:
            with self.subTest(path.name):
                used = [node.attr for node in nodes(path, ast.Attribute)]
                self.assertEqual([name for name in used if name not in free], [])

    def test_methods_are_no_values(self):
        methods = []
        values = []
        for path in FILES:
            for node in nodes(path, ast.ClassDef):
                methods += [inner.name for inner in node.body if isinstance(inner, ast.FunctionDef)]
            values += [node.attr for node in nodes(path, ast.Attribute) if isinstance(node.ctx, ast.Store)]
        self.assertEqual(sorted(set(methods) & set(values)), [])
        taken = [name for kind in (str, int, list, dict, set, bytes, tuple) for name in vars(kind)]
        self.assertEqual([name for name in values if name in taken], [])

    def test_walked_on_the_spot(self):
        for path in FILES:
            with self.subTest(path.name):
                for parent in nodes(path, ast.AST):
                    for node in ast.iter_child_nodes(parent):
                        if is_walker(node):
                            self.assertTrue(walks_on_the_spot(node, parent), getattr(node, "lineno", 0))

    def test_no_files_draw_from_one_another(self):
        left = {path.stem: {node.module.split(".")[1] for node in nodes(path, ast.ImportFrom)} for path in FILES}
        while left:
            free = [name for name in left if not left[name] & set(left)]
            self.assertNotEqual(free, [], left)
            left = {name: drawn for name, drawn in left.items() if name not in free}

    def test_is_stands_beside_none_and_truths_alone(self):
        for path in FILES:
            with self.subTest(path.name):
                for node in nodes(path, ast.Compare):
                    if any(isinstance(op, (ast.Is, ast.IsNot)) for op in node.ops):
                        self.assertIsInstance(node.comparators[-1], ast.Constant)


if __name__ == "__main__":
    unittest.main()
