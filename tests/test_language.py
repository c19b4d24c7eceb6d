"""What can be seen by a machine of the rules for the package's own files."""

import ast
import builtins
import pathlib
import re
import unittest

PACKAGE = pathlib.Path(__file__).resolve().parent.parent / "cardringsdesk"

STATEMENTS = (
    ast.Assign, ast.AugAssign, ast.If, ast.While, ast.For, ast.Return, ast.Break, ast.Continue, ast.Pass, ast.Raise,
    ast.Try, ast.Expr, ast.FunctionDef, ast.ClassDef, ast.ImportFrom)

BUILT_IN = set("""len range enumerate zip min max sum abs sorted reversed int str bool list tuple dict set frozenset
isinstance ord repr any all divmod Exception ValueError TypeError KeyError IndexError LookupError ZeroDivisionError
ArithmeticError OverflowError RuntimeError NotImplementedError AttributeError StopIteration""".split())

METHODS = set("""append clear copy count endswith extend find get index insert isalnum isalpha isdigit islower isspace
isupper items join keys ljust lower lstrip partition pop remove replace reverse rfind rjust rpartition rsplit rstrip
setdefault split splitlines startswith strip update upper values zfill bit_length""".split())

WORDS = set("""type typing typing_extensions enum Enum IntEnum StrEnum Flag IntFlag Generic Protocol ABC ABCMeta
namedtuple NamedTuple TypedDict TYPE_CHECKING abstractmethod""".split())

NEVER = set("register mro elements open input version_info with_traceback add_note format format_map".split())

OWN_VALUES = (str, int, list, dict, set, bytes, tuple)


def package_files():
    return sorted(path for path in PACKAGE.rglob("*") if path.is_file() and "__pycache__" not in path.parts)


def names_bound(tree):
    for node in ast.walk(tree):
        if isinstance(node, ast.Name) and isinstance(node.ctx, ast.Store):
            yield node.id
        elif isinstance(node, ast.arg):
            yield node.arg
        elif isinstance(node, (ast.FunctionDef, ast.ClassDef)):
            yield node.name


class LanguageTest(unittest.TestCase):
    def setUp(self):
        self.texts = {path.name: path.read_text(encoding="utf-8") for path in package_files()}
        self.trees = {name: ast.parse(text) for name, text in self.texts.items()}

    def nodes(self, kind):
        return [(name, node) for name, tree in self.trees.items() for node in ast.walk(tree) if isinstance(node, kind)]

    def test_files(self):
        self.assertIn("__init__.py", self.texts)
        for name in self.texts:
            self.assertRegex(name, r"\A[a-z0-9_]+\.py\Z")

    def test_sizes_and_signs(self):
        for name, text in self.texts.items():
            self.assertRegex(text, r"\A[ -~\n]*\Z", name)
            self.assertLessEqual(text.count("\n"), 400, name)
            self.assertLessEqual(max(len(row) for row in text.split("\n")), 120, name)
        for name, node in self.nodes(ast.FunctionDef):
            self.assertLessEqual(node.end_lineno - node.lineno + 1, 40, (name, node.name))

    def test_statements(self):
        for name, node in self.nodes(ast.stmt):
            self.assertIsInstance(node, STATEMENTS, (name, node.lineno))
            self.assertFalse(isinstance(node, (ast.For, ast.While)) and node.orelse, (name, node.lineno))
            if isinstance(node, ast.Assign):
                self.assertEqual(len(node.targets), 1, (name, node.lineno))
                self.assertNotIsInstance(node.targets[0], (ast.Tuple, ast.List), (name, node.lineno))
            if isinstance(node, ast.ImportFrom):
                self.assertTrue(node.module.startswith("cardringsdesk.") and node.level == 0, (name, node.lineno))

    def test_expressions(self):
        kinds = (ast.Div, ast.SetComp, ast.DictComp, ast.GeneratorExp, ast.NamedExpr, ast.Starred, ast.Await, ast.Yield)
        self.assertEqual(self.nodes(kinds), [])
        for name, node in self.nodes(ast.Constant):
            self.assertIsInstance(node.value, (int, str, type(None)), (name, node.lineno))

        for name, node in self.nodes(ast.ListComp):
            self.assertTrue(len(node.generators) == 1 and len(node.generators[0].ifs) <= 1, (name, node.lineno))
        for name, node in self.nodes(ast.Compare):
            if any(isinstance(sign, (ast.Is, ast.IsNot)) for sign in node.ops):
                self.assertIsInstance(node.comparators[0], ast.Constant, (name, node.lineno))

    def test_defs(self):
        for name, node in self.nodes((ast.FunctionDef, ast.ClassDef)):
            self.assertEqual(node.decorator_list, [], (name, node.name))
        for name, node in self.nodes(ast.arguments):
            self.assertFalse(node.vararg or node.kwarg or node.kwonlyargs or node.posonlyargs, name)
        for name, node in self.nodes(ast.ClassDef):
            self.assertTrue(all(isinstance(one, ast.FunctionDef) for one in node.body), (name, node.name))

    def test_names_of_a_files_top(self):
        for name, tree in self.trees.items():
            top = [node for node in tree.body if isinstance(node, ast.Assign)]
            bound = [node.targets[0].id for node in top]
            self.assertEqual(len(bound), len(set(bound)), name)
            for node in top:
                within = [one for one in ast.walk(node.value) if isinstance(one, (ast.List, ast.Dict))]
                self.assertTrue(within in ([], [node.value]), (name, node.lineno))

    def test_no_two_files_draw_from_one_another(self):
        draws = {name: set() for name in self.trees}
        for name, node in self.nodes(ast.ImportFrom):
            draws[name].add(node.module.split(".")[1] + ".py")
        while draws:
            free = [name for name in draws if not draws[name] & set(draws)]
            self.assertNotEqual(free, [], draws)
            draws = {name: draws[name] for name in draws if name not in free}

    def test_names(self):
        for name, tree in self.trees.items():
            for bound in set(names_bound(tree)) - {"__init__"}:
                self.assertFalse(bound.startswith("_"), (name, bound))
                self.assertFalse(hasattr(builtins, bound), (name, bound))
                self.assertNotIn(bound, NEVER, name)
        for name, node in self.nodes(ast.Name):
            self.assertTrue(node.id in BUILT_IN or not hasattr(builtins, node.id), (name, node.id))

    def test_words(self):
        for name, text in self.texts.items():
            self.assertEqual(WORDS & set(re.findall(r"\w+", text)), set(), name)
            self.assertIsNone(re.search("dataclass|overload|contextmanager", text), name)

    def test_methods_and_values(self):
        methods = {node.name for name, tree in self.trees.items() for kind in tree.body
                   if isinstance(kind, ast.ClassDef) for node in kind.body if isinstance(node, ast.FunctionDef)}
        values = {node.attr for name, node in self.nodes(ast.Attribute) if isinstance(node.ctx, ast.Store)}
        self.assertEqual(methods & values, set())
        for value in methods - {"__init__"} | values:
            self.assertFalse(any(hasattr(kind, value) for kind in OWN_VALUES), value)
        used = {node.attr for name, node in self.nodes(ast.Attribute)}
        self.assertEqual(used - methods - values - METHODS, set())
        self.assertEqual(used & NEVER, set())
