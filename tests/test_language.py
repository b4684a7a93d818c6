"""The package's files beside those rules of ../shared/LANGUAGE.md that can be read off a file."""

import ast
import builtins
import pathlib
import re
import unittest

PACKAGE = pathlib.Path(__file__).resolve().parent.parent / "chosenwell"
SOURCES = {path.name: path.read_text(encoding="utf-8") for path in sorted(PACKAGE.glob("*.py"))}
TREES = {name: ast.parse(text) for name, text in SOURCES.items()}

BUILTINS = set("""len range enumerate zip min max sum abs sorted reversed int str bool list tuple dict set frozenset
isinstance ord repr any all divmod Exception ValueError TypeError KeyError IndexError LookupError ZeroDivisionError
ArithmeticError OverflowError RuntimeError NotImplementedError AttributeError StopIteration""".split())
METHODS = set("""append clear copy count endswith extend find get index insert isalnum isalpha isdigit islower isspace
isupper items join keys ljust lower lstrip partition pop remove replace reverse rfind rjust rpartition rsplit rstrip
setdefault split splitlines startswith strip update upper values zfill bit_length""".split())
WORDS = re.compile(r"\b(type|typing|typing_extensions|enum|Enum|IntEnum|StrEnum|Flag|IntFlag|Generic|Protocol|ABC|ABCMeta"
                   r"|namedtuple|NamedTuple|TypedDict|TYPE_CHECKING|abstractmethod)\b|dataclass|overload|contextmanager")
NODES = set("""Module FunctionDef arguments arg ClassDef Return Assign AugAssign For While If Raise Try ExceptHandler Expr
Pass Break Continue ImportFrom alias BoolOp And Or BinOp Add Sub Mult FloorDiv Mod Pow LShift RShift BitOr BitXor BitAnd
UnaryOp Not USub Invert Lambda IfExp Dict ListComp comprehension Compare Eq NotEq Lt LtE Gt GtE Is IsNot In NotIn Call
keyword FormattedValue JoinedStr Constant Attribute Subscript Slice Name List Tuple Load Store""".split())


def nodes(kind):
    return [(name, node) for name, tree in TREES.items() for node in ast.walk(tree) if isinstance(node, kind)]


def own_names():
    names = {node.name for name, node in nodes((ast.FunctionDef, ast.ClassDef))}
    names |= {node.attr for name, node in nodes(ast.Attribute) if isinstance(node.ctx, ast.Store)}
    return names


def is_plain(node, functions):
    """A value that may stand at a file's top; a list or dict holds no list or dict itself."""
    if isinstance(node, ast.UnaryOp):
        return isinstance(node.op, ast.USub) and is_plain(node.operand, functions)
    if isinstance(node, (ast.List, ast.Tuple)):
        return all(is_plain(part, functions) and not isinstance(part, (ast.List, ast.Dict)) for part in node.elts)
    if isinstance(node, ast.Dict):
        parts = node.keys + node.values
        return all(is_plain(part, functions) and not isinstance(part, (ast.List, ast.Dict)) for part in parts)
    return isinstance(node, ast.Constant) or isinstance(node, ast.Name) and node.id in functions


def called(node):
    return node.func.id if isinstance(node.func, ast.Name) else getattr(node.func, "attr", "")


class Language(unittest.TestCase):
    def test_files(self):
        self.assertIn("__init__.py", SOURCES)
        others = [path.name for path in PACKAGE.iterdir() if path.name != "__pycache__" and path.suffix != ".py"]
        self.assertEqual(others, [])

    def test_signs_and_size(self):
        for name, text in SOURCES.items():
            self.assertLessEqual(len(text.splitlines()), 400, name)
            for line in text.split("\n"):
                self.assertLessEqual(len(line), 120, line)
                self.assertTrue(all(" " <= sign <= "~" for sign in line), line)
        for name, node in nodes(ast.FunctionDef):
            self.assertLessEqual(node.end_lineno - node.lineno + 1, 40, node.name)

    def test_words_that_stand_nowhere(self):
        for name, text in SOURCES.items():
            self.assertIsNone(WORDS.search(text), name)

    def test_parts_of_the_language(self):
        for name, node in nodes(ast.AST):
            self.assertIn(type(node).__name__, NODES, (name, getattr(node, "lineno", 0)))

    def test_imports_are_the_packages_own(self):
        for name, node in nodes(ast.ImportFrom):
            self.assertEqual((node.level, node.module.split(".")[0]), (0, "chosenwell"), name)

    def test_plain_functions(self):
        for name, node in nodes(ast.FunctionDef):
            given = node.args
            self.assertEqual((given.vararg, given.kwarg, given.kwonlyargs, node.decorator_list), (None, None, [], []))

    def test_names(self):
        for name, node in nodes(ast.Name):
            self.assertFalse(node.id.startswith("_"), node.id)
            if isinstance(node.ctx, ast.Store):
                self.assertFalse(hasattr(builtins, node.id), node.id)
            elif hasattr(builtins, node.id):
                self.assertIn(node.id, BUILTINS)
        for name, node in nodes(ast.arg):
            self.assertFalse(hasattr(builtins, node.arg) or node.arg.startswith("_"), node.arg)

    def test_methods(self):
        for name, node in nodes(ast.Attribute):
            self.assertIn(node.attr, METHODS | own_names(), node.lineno)

    def test_top_of_each_file(self):
        for name, tree in TREES.items():
            bound = []
            for place, node in enumerate(tree.body):
                if isinstance(node, (ast.FunctionDef, ast.ClassDef)):
                    bound.append(node.name)
                elif isinstance(node, ast.Assign):
                    self.assertTrue(is_plain(node.value, bound), node.lineno)
                    bound.append(node.targets[0].id)
                elif isinstance(node, ast.ImportFrom):
                    bound += [part.asname or part.name for part in node.names]
                else:
                    self.assertEqual((place, type(node)), (0, ast.Expr), name)
                    self.assertIsInstance(node.value.value, str)
            self.assertEqual(sorted(bound), sorted(set(bound)), name)

    def test_classes(self):
        methods, values = set(), set()
        for name, node in nodes(ast.ClassDef):
            self.assertIn(node, TREES[name].body)
            self.assertEqual((node.decorator_list, node.keywords, len(node.bases) > 1), ([], [], False))
            own = [part.name for part in node.body if isinstance(part, ast.FunctionDef)]
            self.assertEqual(len(own), len(set(own)), node.name)
            methods |= set(own)
            for part in node.body:
                self.assertIsInstance(part, (ast.FunctionDef, ast.Pass), node.name)
        for name, node in nodes(ast.Attribute):
            if isinstance(node.ctx, ast.Store):
                values.add(node.attr)
                self.assertIsInstance(node.value, ast.Name, node.lineno)
        self.assertEqual(methods & values, set())
        builtin = {word for kind in (str, int, list, tuple, dict, set, bytes) for word in dir(kind)}
        self.assertEqual((methods - {"__init__"} | values) & builtin, set())

    def test_names_within_functions_are_no_classes_and_no_imports(self):
        for name, tree in TREES.items():
            taken = {node.name for node in tree.body if isinstance(node, ast.ClassDef)}
            taken |= {part.name for node in tree.body if isinstance(node, ast.ImportFrom) for part in node.names}
            inside = {node.arg for node in ast.walk(tree) if isinstance(node, ast.arg)}
            names = [node for node in ast.walk(tree) if isinstance(node, ast.Name)]
            inside |= {node.id for node in names if isinstance(node.ctx, ast.Store)}
            self.assertEqual(taken & inside, set())

    def test_statements(self):
        for name, node in nodes((ast.For, ast.While)):
            self.assertEqual(node.orelse, [], node.lineno)
        for name, node in nodes(ast.Try):
            self.assertEqual(node.finalbody, [], node.lineno)
        for name, node in nodes(ast.Raise):
            self.assertIsInstance(node.exc, ast.Call, node.lineno)
        for name, node in nodes(ast.Expr):
            self.assertIsInstance(node.value, (ast.Call, ast.Constant), node.lineno)

    def test_comprehensions(self):
        for name, node in nodes(ast.ListComp):
            self.assertEqual(len(node.generators), 1, node.lineno)
            self.assertLessEqual(len(node.generators[0].ifs), 1, node.lineno)

    def test_no_annotations(self):
        for name, node in nodes(ast.FunctionDef):
            self.assertIsNone(node.returns, node.name)
        for name, node in nodes(ast.arg):
            self.assertIsNone(node.annotation, node.arg)

    def test_is_stands_beside_none_true_and_false(self):
        for name, node in nodes(ast.Compare):
            if any(isinstance(sign, (ast.Is, ast.IsNot)) for sign in node.ops):
                sides = [node.left] + node.comparators
                kinds = [type(side.value) for side in sides if isinstance(side, ast.Constant)]
                self.assertTrue({bool, type(None)} & set(kinds), node.lineno)

    def test_powers_have_a_written_exponent(self):
        for name, node in nodes(ast.BinOp):
            if isinstance(node.op, ast.Pow):
                self.assertIsInstance(node.right, ast.Constant, node.lineno)

    def test_texts(self):
        for name, node in nodes(ast.Constant):
            if isinstance(node.value, str):
                self.assertNotIn("%", node.value)
        for name, node in nodes(ast.FormattedValue):
            self.assertIsInstance(node.value, ast.Name)
            self.assertIsNone(node.format_spec)

    def test_keywords(self):
        allowed = {"sorted": {"key", "reverse"}, "min": {"key", "default"}, "max": {"key", "default"}, "sum": {"start"},
                   "enumerate": {"start"}, "zip": {"strict"}}
        for name, node in nodes(ast.Call):
            self.assertLessEqual({part.arg for part in node.keywords}, allowed.get(called(node), set()), node.lineno)

    def test_sets_are_not_kept_and_walks_are_walked_at_once(self):
        walked = {"zip", "enumerate", "reversed", "range", "items", "keys", "values"}
        for name, node in nodes(ast.Assign):
            if isinstance(node.value, ast.Call):
                self.assertNotIn(called(node.value), walked | {"set", "frozenset"}, node.lineno)
        for name, node in nodes(ast.Return):
            if isinstance(node.value, ast.Call):
                self.assertNotIn(called(node.value), walked | {"set", "frozenset"}, node.lineno)

    def test_assignments_have_one_target(self):
        for name, node in nodes(ast.Assign):
            self.assertEqual(len(node.targets), 1, node.lineno)
            self.assertIsInstance(node.targets[0], (ast.Name, ast.Attribute, ast.Subscript), node.lineno)

    def test_values(self):
        for name, node in nodes(ast.Constant):
            self.assertTrue(node.value is None or isinstance(node.value, (int, str)), node.lineno)
