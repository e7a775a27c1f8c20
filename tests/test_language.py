"""The form of the package's code: the rules of LANGUAGE.md that can be seen from the files alone."""

import ast
import builtins
import re
import unittest
from pathlib import Path

PACKAGE = Path(__file__).resolve().parent.parent / "numbertypes"
FILES = sorted(PACKAGE.glob("*.py"))
TREES = {path: ast.parse(path.read_text()) for path in FILES}
BUILTINS = set(
    "len range enumerate zip min max sum abs sorted reversed int str bool list tuple dict set isinstance ord repr any "
    "all divmod super property staticmethod classmethod NotImplementedError NotImplemented "
    "ValueError LookupError IndexError KeyError ZeroDivisionError".split()
)
# Doctest gives the name _ to what it shows, among the builtins.
ALL_BUILTINS = set(dir(builtins)) - {"_"}
BARRED_NAMES = set("register mro elements open input law version_info with_traceback add_note".split())
BARRED_WORDS = re.compile(
    r"\b(type|typing|typing_extensions|enum|Enum|IntEnum|StrEnum|Flag|IntFlag|Generic|Protocol|ABC|ABCMeta|namedtuple"
    r"|NamedTuple|TypedDict|TYPE_CHECKING|abstractmethod)\b|dataclass|overload|contextmanager|_wall|_WallAttr"
)
TAKES_LISTS = {"any", "all", "min", "max", "sum", "sorted"}
BARRED_NODES = (
    ast.AsyncFunctionDef, ast.AsyncFor, ast.AsyncWith, ast.Await, ast.Global, ast.GeneratorExp, ast.Div, ast.MatMult,
    ast.AnnAssign,
)
SPECIAL_METHODS = {
    "__init__", "__eq__", "__repr__", "__len__", "__bool__", "__contains__", "__add__", "__sub__", "__mul__", "__neg__",
    "__and__", "__or__", "__call__",
}
MATH_NAMES = {"gcd", "lcm", "isqrt", "comb", "perm", "factorial"}
ITERTOOLS_NAMES = {"product", "combinations", "permutations"}
# Calls whose result is iterated on the spot, and calls that iterate what they are given.
AT_ONCE = {"range", "zip", "enumerate", "reversed", "set", "combinations"}
ITERATING = {"list", "tuple", "dict", "sorted", "sum", "any", "all", "enumerate", "zip", "min", "max", "reversed",
             "len", "combinations"}


def nodes(kind):
    for path, tree in TREES.items():
        for node in ast.walk(tree):
            if isinstance(node, kind):
                yield path.name, node


def functions():
    return nodes(ast.FunctionDef)


def kinds_of(function):
    """The decorators of a function; the setter of a property stands behind the property itself."""
    found = [ast.unparse(decorator) for decorator in function.decorator_list]
    return ["setter" if word == function.name + ".setter" else word for word in found]


def yields(function):
    return any(isinstance(node, (ast.Yield, ast.YieldFrom)) for node in ast.walk(function))


class FilesTest(unittest.TestCase):
    def test_the_folder(self):
        self.assertIn("__init__.py", [path.name for path in FILES])
        for path in PACKAGE.iterdir():
            if path.name != "__pycache__":
                self.assertRegex(path.name, r"\A[a-z0-9_]+\.py\Z")

    def test_sizes_and_characters(self):
        for path in FILES:
            text = path.read_text()
            self.assertTrue(all(" " <= sign <= "~" or sign == "\n" for sign in text), path.name)
            lines = text.split("\n")
            self.assertLess(len(lines), 400, path.name)
            self.assertLessEqual(max(len(line) for line in lines), 120, path.name)

    def test_sizes_of_functions(self):
        for name, function in functions():
            self.assertLessEqual(function.end_lineno - function.lineno + 1, 40, (name, function.name))

    def test_barred_words(self):
        for path, tree in TREES.items():
            text = "\n".join(line.split("#")[0] for line in path.read_text().split("\n"))
            for node in ast.walk(tree):
                if isinstance(node, (ast.Module, ast.ClassDef, ast.FunctionDef)) and ast.get_docstring(node, False):
                    text = text.replace(ast.get_docstring(node, False), "")
            self.assertIsNone(BARRED_WORDS.search(text), path.name)

    def test_strings(self):
        for name, node in nodes(ast.Constant):
            self.assertNotIsInstance(node.value, (float, complex), name)
            if isinstance(node.value, str):
                self.assertNotIn("%", node.value, name)


class ImportsTest(unittest.TestCase):
    def test_imports(self):
        self.assertEqual(list(nodes(ast.Import)), [])
        defined = {
            path.stem: {node.name for node in tree.body if isinstance(node, (ast.ClassDef, ast.FunctionDef))}
            | {target.id for node in tree.body if isinstance(node, ast.Assign) for target in node.targets}
            for path, tree in TREES.items()
        }
        for name, node in nodes(ast.ImportFrom):
            self.assertEqual(node.level, 0)
            self.assertTrue(all(alias.asname is None for alias in node.names), name)
            names = {alias.name for alias in node.names}
            if node.module == "math":
                self.assertLessEqual(names, MATH_NAMES)
            elif node.module == "itertools":
                self.assertLessEqual(names, ITERTOOLS_NAMES)
            else:
                package, _, stem = node.module.partition(".")
                self.assertEqual(package, "numbertypes")
                self.assertLessEqual(names, defined[stem], name)

    def test_module_level(self):
        for path, tree in TREES.items():
            names = []
            for at, node in enumerate(tree.body):
                if isinstance(node, ast.ImportFrom):
                    names += [alias.name for alias in node.names]
                elif isinstance(node, (ast.ClassDef, ast.FunctionDef)):
                    names.append(node.name)
                elif isinstance(node, ast.Assign):
                    names.append(node.targets[0].id)
                else:
                    self.assertTrue(at == 0 and isinstance(node, ast.Expr), path.name)
            self.assertEqual(len(names), len(set(names)), path.name)

    def test_no_circles(self):
        needs = {path.stem: set() for path in FILES}
        for name, node in nodes(ast.ImportFrom):
            if node.module.startswith("numbertypes."):
                needs[name[: -len(".py")]].add(node.module.partition(".")[2])
        while needs:
            free = [stem for stem, needed in needs.items() if not needed & set(needs)]
            self.assertNotEqual(free, [])
            for stem in free:
                del needs[stem]


class CodeTest(unittest.TestCase):
    def test_barred_statements(self):
        for name, node in nodes(BARRED_NODES):
            self.fail((name, node.lineno))

    def test_decorators(self):
        for name, node in nodes(ast.ClassDef):
            self.assertEqual(node.decorator_list, [], name)
        for name, function in functions():
            for word in kinds_of(function):
                self.assertIn(word, ("property", "setter", "staticmethod", "classmethod"), name)

    def test_special_methods(self):
        for name, function in functions():
            if function.name.startswith("__"):
                self.assertIn(function.name, SPECIAL_METHODS, name)

    def test_builtins(self):
        for name, node in nodes(ast.Name):
            if node.id in ALL_BUILTINS:
                self.assertIn(node.id, BUILTINS, (name, node.lineno))
                self.assertIsInstance(node.ctx, ast.Load)

    def test_names_of_variables(self):
        for path, tree in TREES.items():
            taken = {alias.name for node in tree.body if isinstance(node, ast.ImportFrom) for alias in node.names}
            taken |= {node.name for node in tree.body if isinstance(node, ast.ClassDef)}
            for node in ast.walk(tree):
                if isinstance(node, ast.arg):
                    word = node.arg
                elif isinstance(node, ast.Name) and isinstance(node.ctx, ast.Store):
                    word = node.id
                else:
                    continue
                self.assertNotIn(word, taken | BARRED_NAMES, path.name)
                self.assertNotIn(word, ALL_BUILTINS, path.name)

    def test_lists_of_many_generators(self):
        made = {}
        for name, function in functions():
            made.setdefault(function.name, []).append(yields(function))
        for word, kinds in made.items():
            self.assertTrue(len(kinds) == 1 or not any(kinds), word)
        generators = {word for word, kinds in made.items() if any(kinds)}
        for name, node in nodes(ast.Call):
            if isinstance(node.func, ast.Name) and node.func.id in TAKES_LISTS:
                for given in node.args:
                    inner = given.func if isinstance(given, ast.Call) else None
                    self.assertFalse(isinstance(inner, ast.Attribute) and inner.attr in generators, name)

    def test_what_is_iterated_at_once(self):
        for path, tree in TREES.items():
            allowed = set()
            for node in ast.walk(tree):
                if isinstance(node, (ast.For, ast.comprehension)):
                    allowed.add(node.iter)
                elif isinstance(node, ast.Call) and isinstance(node.func, ast.Name) and node.func.id in ITERATING:
                    allowed.update(node.args)
                elif isinstance(node, ast.Assign) and isinstance(node.value, ast.Call):
                    if isinstance(node.value.func, ast.Name) and node.value.func.id == "range":
                        allowed.add(node.value)
            for node in ast.walk(tree):
                if isinstance(node, ast.Call) and node not in allowed:
                    word = getattr(node.func, "id", getattr(node.func, "attr", None))
                    self.assertNotIn(word, AT_ONCE | {"items", "values", "keys"}, (path.name, node.lineno))

    def test_sets(self):
        for path, tree in TREES.items():
            inside = set()
            for node in ast.walk(tree):
                if isinstance(node, ast.Call) and isinstance(node.func, ast.Name) and node.func.id in ("sorted", "len"):
                    inside.update(node.args)
            for node in ast.walk(tree):
                self.assertNotIsInstance(node, (ast.Set, ast.SetComp), path.name)
                if isinstance(node, ast.Call) and isinstance(node.func, ast.Name) and node.func.id == "set":
                    self.assertIn(node, inside, (path.name, node.lineno))

    def test_stars(self):
        for name, node in nodes(ast.Call):
            for given in node.args:
                if isinstance(given, ast.Starred):
                    self.assertIsInstance(given.value, (ast.Name, ast.Attribute), (name, node.lineno))
            self.assertTrue(all(keyword.arg is not None for keyword in node.keywords), name)

    def test_identity(self):
        for name, node in nodes(ast.Compare):
            for sign, right in zip(node.ops, node.comparators):
                if isinstance(sign, (ast.Is, ast.IsNot)):
                    self.assertIsInstance(right, ast.Constant, (name, node.lineno))

    def test_exponents(self):
        for name, node in nodes(ast.BinOp):
            if isinstance(node.op, ast.Pow):
                self.assertIsInstance(node.right, ast.Constant, (name, node.lineno))
                self.assertTrue(0 <= node.right.value <= 64)

    def test_returns_of_special_methods(self):
        for name, function in functions():
            returned = [node.value for node in ast.walk(function) if isinstance(node, ast.Return)]
            for value in returned:
                if function.name == "__repr__":
                    self.assertIsInstance(value, ast.JoinedStr, name)
                if function.name == "__len__":
                    self.assertTrue(isinstance(value, ast.Constant) or value.func.id == "len", name)
                if function.name == "__bool__":
                    self.assertTrue(isinstance(value, ast.Constant) or value.func.id == "bool", name)
            if function.name in ("__repr__", "__len__", "__bool__", "__eq__"):
                for node in ast.walk(function):
                    self.assertNotIsInstance(node, (ast.Assign, ast.AugAssign, ast.Delete), name)

    def test_caught_errors_are_own_ones(self):
        own = {node.name for node in TREES[PACKAGE / "errors.py"].body if isinstance(node, ast.ClassDef)}
        for name, node in nodes(ast.ExceptHandler):
            for kind in node.type.elts if isinstance(node.type, ast.Tuple) else [node.type]:
                self.assertIn(kind.id, own, (name, node.lineno))

    def test_names_of_properties_and_static_methods(self):
        plain, properties, static, attributes = set(), set(), set(), set()
        for _, node in nodes(ast.ClassDef):
            for part in node.body:
                if isinstance(part, ast.FunctionDef):
                    kinds = kinds_of(part)
                    group = static if "staticmethod" in kinds else plain
                    group = properties if "property" in kinds or "setter" in kinds else group
                    group.add(part.name)
        for _, node in nodes(ast.Attribute):
            if isinstance(node.ctx, ast.Store):
                attributes.add(node.attr)
        self.assertEqual(properties & (plain | static | attributes), set())
        self.assertEqual(static & (plain | attributes), set())
        for kind in (str, int, list, dict, set, bytes, tuple):
            self.assertEqual((properties | static | attributes) & set(dir(kind)), set())

    def test_methods_and_attributes(self):
        methods, attributes = set(), set()
        for _, node in nodes(ast.ClassDef):
            methods |= {part.name for part in node.body if isinstance(part, ast.FunctionDef)}
        for _, node in nodes(ast.Attribute):
            if isinstance(node.ctx, ast.Store):
                attributes.add(node.attr)
        self.assertEqual(methods & attributes, set())
        for _, node in nodes(ast.ClassDef):
            names = [part.name for part in node.body
                     if isinstance(part, ast.FunctionDef) and "setter" not in kinds_of(part)]
            self.assertEqual(len(names), len(set(names)), node.name)


if __name__ == "__main__":
    unittest.main()
