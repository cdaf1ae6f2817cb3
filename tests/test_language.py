"""The rules of the part of Python that the package keeps to, as far as they are seen from its syntax."""

import ast
import builtins
import pathlib
import re
import unittest

PACKAGE = pathlib.Path(__file__).resolve().parent.parent / "missingaxioms"
NODES = set("""
    Module Expr Constant Assign AugAssign AnnAssign If While For Return Break Continue Pass Raise Try ExceptHandler
    FunctionDef ClassDef Lambda arguments arg ImportFrom alias Name Load Store Attribute Subscript Slice Call keyword
    List Tuple Dict ListComp comprehension IfExp BoolOp And Or UnaryOp Not USub Invert BinOp Add Sub Mult FloorDiv Mod
    Pow BitAnd BitOr BitXor LShift RShift Compare Eq NotEq Lt LtE Gt GtE Is IsNot In NotIn JoinedStr FormattedValue
""".split())
BUILTINS = set("""
    len range enumerate zip min max sum abs sorted reversed int str bool list tuple dict set frozenset isinstance ord
    repr any all divmod Exception ValueError TypeError KeyError IndexError LookupError ZeroDivisionError
    ArithmeticError OverflowError RuntimeError NotImplementedError AttributeError StopIteration True False None
""".split())
METHODS = set("""
    append clear copy count endswith extend find get index insert isalnum isalpha isdigit islower isspace isupper items
    join keys ljust lower lstrip partition pop remove replace reverse rfind rjust rpartition rsplit rstrip setdefault
    split splitlines startswith strip update upper values zfill bit_length
""".split())
WORDS = """
    type typing typing_extensions enum Enum IntEnum StrEnum Flag IntFlag Generic Protocol ABC ABCMeta namedtuple
    NamedTuple TypedDict TYPE_CHECKING abstractmethod
""".split()
UNUSED = set("""
    register mro elements open input version_info with_traceback add_note attrgetter breakpoint builtins compile
    copyright credits delattr dir eval exec exit gc getattr globals hasattr help id importlib license locals
    methodcaller os quit setattr super vars sys format format_map
""".split())
OWN_MEMBERS = set().union(*[dir(sort) for sort in (str, int, list, dict, set, bytes, tuple)])


def sources():
    return {path.stem: path.read_text("ascii") for path in sorted(PACKAGE.glob("*.py"))}


def trees():
    return {name: ast.parse(text) for name, text in sources().items()}


def nodes_of(tree, *sorts):
    return [node for node in ast.walk(tree) if isinstance(node, sorts)]


def imported(tree):
    return [alias.name for node in nodes_of(tree, ast.ImportFrom) for alias in node.names]


def bound_inside(tree):
    """The names of parameters and locals."""
    names = []
    for function in nodes_of(tree, ast.FunctionDef, ast.Lambda):
        names += [node.arg for node in nodes_of(function, ast.arg)]
        names += [node.id for node in nodes_of(function, ast.Name) if isinstance(node.ctx, ast.Store)]
    return names


class Language(unittest.TestCase):
    def test_files(self):
        for path in PACKAGE.iterdir():
            self.assertTrue(path.name == "__pycache__" or re.fullmatch(r"[a-z_]+\.py", path.name), path)
        for name, text in sources().items():
            lines = text.split("\n")
            self.assertLess(len(lines), 400, name)
            self.assertLessEqual(max(map(len, lines)), 120, name)
            self.assertTrue(re.fullmatch(r"[ -~\n]*", text), name)

    def test_words(self):
        for name, text in sources().items():
            self.assertEqual([word for word in WORDS if re.search(rf"\b{word}\b", text)], [], name)
            self.assertIsNone(re.search("dataclass|overload|contextmanager", text), name)

    def test_syntax(self):
        for name, tree in trees().items():
            self.assertEqual({sort(node) for node in ast.walk(tree)} - NODES, set(), name)
            for node in ast.walk(tree):
                self.assertFalse(getattr(node, "decorator_list", []), name)
                self.assertFalse(isinstance(node, ast.Constant) and isinstance(node.value, (float, bytes)), name)
                self.assertFalse(getattr(node, "orelse", []) and isinstance(node, (ast.For, ast.While)), name)
            for node in nodes_of(tree, ast.Assign):
                self.assertEqual(len(node.targets), 1, name)
            for node in nodes_of(tree, ast.ListComp):
                self.assertEqual(len(node.generators), 1, name)
                self.assertLessEqual(len(node.generators[0].ifs), 1, name)

    def test_functions(self):
        for name, tree in trees().items():
            for function in nodes_of(tree, ast.FunctionDef):
                self.assertLessEqual(function.end_lineno - function.lineno + 1, 40, function.name)
                given = function.args
                self.assertFalse(given.vararg or given.kwarg or given.kwonlyargs or given.posonlyargs, function.name)

    def test_imports(self):
        defined = {
            name: [node.name for node in tree.body if isinstance(node, (ast.FunctionDef, ast.ClassDef))]
            for name, tree in trees().items()
        }
        for name, tree in trees().items():
            for node in nodes_of(tree, ast.ImportFrom):
                self.assertTrue(node.module.startswith("missingaxioms."), name)
                source = node.module.split(".")[1]
                for alias in node.names:
                    self.assertIn(alias.name, defined[source], name)
                    self.assertIsNone(alias.asname, name)
        self.assertEqual([name for name in defined if "answers" in defined[name]], ["guesses"])

    def test_names(self):
        for name, tree in trees().items():
            top = [node.name for node in tree.body if hasattr(node, "name")]
            top += [node.targets[0].id for node in tree.body if isinstance(node, ast.Assign)]
            self.assertEqual(len(top), len(set(top)), name)
            classes = [node.name for node in nodes_of(tree, ast.ClassDef)]
            inside = bound_inside(tree)
            self.assertEqual(set(inside) & {*classes, *imported(tree), *dir(builtins)}, set(), name)
            used = {node.id for node in nodes_of(tree, ast.Name)}
            self.assertEqual(used - {*top, *imported(tree), *inside} - BUILTINS, set(), name)
            self.assertEqual((used | {node.attr for node in nodes_of(tree, ast.Attribute)}) & UNUSED, set(), name)
            self.assertEqual([word for word in [*used, *top] if not re.fullmatch("[A-Za-z][A-Za-z0-9_]*", word)], [])

    def test_keywords(self):
        allowed = {
            "sorted": {"key", "reverse"}, "min": {"key", "default"}, "max": {"key", "default"}, "sum": {"start"},
            "enumerate": {"start"}, "zip": {"strict"},
        }
        for name, tree in trees().items():
            for call in nodes_of(tree, ast.Call):
                called = call.func.id if isinstance(call.func, ast.Name) else ""
                self.assertEqual({keyword.arg for keyword in call.keywords} - allowed.get(called, set()), set(), name)

    def test_methods_and_values_of_objects(self):
        methods, values, called = set(), set(), set()
        for tree in trees().values():
            for node in nodes_of(tree, ast.ClassDef):
                own = [part.name for part in node.body if isinstance(part, ast.FunctionDef)]
                self.assertEqual(len(own), len(set(own)))
                methods |= set(own) - {"__init__"}
            values |= {node.attr for node in nodes_of(tree, ast.Attribute) if isinstance(node.ctx, ast.Store)}
            called |= {call.func.attr for call in nodes_of(tree, ast.Call) if isinstance(call.func, ast.Attribute)}
        self.assertEqual(methods & values, set())
        self.assertEqual((methods | values) & OWN_MEMBERS, set())
        self.assertEqual(called - methods - METHODS, set())


def sort(node):
    return type(node).__name__


if __name__ == "__main__":
    unittest.main()
