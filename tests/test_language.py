"""The package keeps to the rules of LANGUAGE.md that can be read off its files."""

import ast
import builtins
import pathlib
import re
import unittest

PACKAGE = pathlib.Path(__file__).resolve().parent.parent / "netcuts"

ALLOWED_BUILTINS = set("""
    len range enumerate zip min max sum abs sorted reversed int str bool list tuple dict set frozenset
    isinstance ord repr any all divmod Exception ValueError TypeError KeyError IndexError LookupError
    ZeroDivisionError ArithmeticError OverflowError RuntimeError NotImplementedError AttributeError
    StopIteration""".split())

ALLOWED_METHODS = set("""
    append clear copy count endswith extend find get index insert isalnum isalpha isdigit islower isspace
    isupper items join keys ljust lower lstrip partition pop remove replace reverse rfind rjust rpartition
    rsplit rstrip setdefault split splitlines startswith strip update upper values zfill bit_length""".split())

ALLOWED_NODES = set("""
    Module Expr Constant ImportFrom alias FunctionDef arguments arg ClassDef Assign AugAssign If While For
    Return Break Continue Pass Raise Try ExceptHandler Call Name Load Store Attribute Subscript Slice List
    Tuple Dict BinOp Add Sub Mult FloorDiv Mod Pow BitAnd BitOr BitXor LShift RShift UnaryOp USub Not Invert
    BoolOp And Or Compare Eq NotEq Lt LtE Gt GtE Is IsNot In NotIn IfExp ListComp comprehension JoinedStr
    FormattedValue Lambda""".split())

BANNED_WORDS = re.compile(r"""\b(type|typing|typing_extensions|enum|Enum|IntEnum|StrEnum|Flag|IntFlag|Generic
    |Protocol|ABC|ABCMeta|namedtuple|NamedTuple|TypedDict|TYPE_CHECKING|abstractmethod)\b
    |dataclass|overload|contextmanager""", re.VERBOSE)

BANNED_NAMES = set("""
    register mro elements open input version_info with_traceback add_note attrgetter breakpoint builtins
    compile copyright credits delattr dir eval exec exit gc getattr globals hasattr help id importlib license
    locals methodcaller os quit setattr super vars sys chr print format format_map""".split())


def bound_names(tree):
    for node in ast.walk(tree):
        if isinstance(node, (ast.FunctionDef, ast.ClassDef)):
            yield node.name
        elif isinstance(node, ast.arg):
            yield node.arg
        elif isinstance(node, ast.Name) and isinstance(node.ctx, ast.Store):
            yield node.id
        elif isinstance(node, ast.Attribute) and isinstance(node.ctx, ast.Store):
            yield node.attr


def top_names(tree):
    """The names that a file itself gives a meaning at its top."""
    defs = {node.name for node in tree.body if isinstance(node, (ast.FunctionDef, ast.ClassDef))}
    return defs | {node.targets[0].id for node in tree.body if isinstance(node, ast.Assign)}


def drawn_files(tree):
    return {node.module.split(".")[1] + ".py" for node in tree.body if isinstance(node, ast.ImportFrom)}


def local_names(tree):
    """The parameters and locals of all functions."""
    names = {node.arg for node in ast.walk(tree) if isinstance(node, ast.arg)}
    for part in ast.walk(tree):
        if isinstance(part, ast.FunctionDef):
            stored = [node for node in ast.walk(part) if isinstance(node, ast.Name)]
            names |= {node.id for node in stored if isinstance(node.ctx, ast.Store)}
    return names


def methods_and_values(trees):
    """The names of all methods, and of all values that an object is given."""
    methods, values = set(), set()
    for tree in trees:
        for node in ast.walk(tree):
            if isinstance(node, ast.ClassDef):
                methods |= {part.name for part in node.body if isinstance(part, ast.FunctionDef)}
            elif isinstance(node, ast.Attribute) and isinstance(node.ctx, ast.Store):
                values.add(node.attr)
    return methods, values


class Language(unittest.TestCase):
    @classmethod
    def setUpClass(cls):
        cls.texts = {path.name: path.read_bytes().decode("ascii") for path in sorted(PACKAGE.glob("*.py"))}
        cls.trees = {name: ast.parse(text) for name, text in cls.texts.items()}

    def each_node(self, *kinds):
        """Every node of these kinds, and where it stands."""
        for name, tree in self.trees.items():
            for node in ast.walk(tree):
                if isinstance(node, kinds):
                    yield node, f"{name}, line {getattr(node, 'lineno', 'unknown')}"

    def test_files_of_the_package(self):
        found = [path.name for path in PACKAGE.iterdir() if path.name != "__pycache__"]
        self.assertEqual(sorted(found), sorted(self.texts))
        self.assertIn("__init__.py", found)
        for name in found:
            self.assertRegex(name, r"\A([a-z][a-z0-9_]*|__init__|__main__)\.py\Z")

    def test_signs_and_sizes(self):
        for name, text in self.texts.items():
            with self.subTest(file=name):
                self.assertRegex(text, r"\A[ -~\n]*\Z")
                self.assertLessEqual(len(text.splitlines()), 400)
                self.assertLessEqual(max(map(len, text.splitlines())), 120)
                self.assertIsNone(BANNED_WORDS.search(text))
        for node, where in self.each_node(ast.FunctionDef):
            self.assertLessEqual(node.end_lineno - node.lineno + 1, 40, where)

    def test_only_the_allowed_forms(self):
        for node, where in self.each_node(ast.AST):
            self.assertIn(node.__class__.__name__, ALLOWED_NODES, where)
        for node, where in self.each_node(ast.Constant):
            self.assertIsInstance(node.value, (int, str, type(None)), where)
        for node, where in self.each_node(ast.Assign):
            self.assertEqual(len(node.targets), 1, where)
        for node, where in self.each_node(ast.For, ast.While):
            self.assertEqual(node.orelse, [], where)
        for node, where in self.each_node(ast.ListComp):
            self.assertEqual(len(node.generators), 1, where)
            self.assertLessEqual(len(node.generators[0].ifs), 1, where)
        for node, where in self.each_node(ast.FunctionDef, ast.ClassDef):
            self.assertEqual(node.decorator_list, [], where)
        for node, where in self.each_node(ast.arguments):
            self.assertEqual((node.vararg, node.kwarg, node.kwonlyargs, node.posonlyargs), (None, None, [], []), where)

    def test_imports_are_the_packages_own(self):
        for node, where in self.each_node(ast.ImportFrom):
            self.assertEqual(node.level, 0, where)
            self.assertRegex(node.module, r"\Anetcuts\.[a-z_]+\Z", where)
            self.assertNotIn("*", [part.name for part in node.names], where)

    def test_a_name_is_drawn_from_the_file_that_defines_it(self):
        for node, where in self.each_node(ast.ImportFrom):
            tree = self.trees[node.module.split(".")[1] + ".py"]
            self.assertLessEqual({part.name for part in node.names}, top_names(tree), where)

    def test_no_two_files_draw_from_one_another(self):
        drawn = {name: drawn_files(tree) for name, tree in self.trees.items()}
        while drawn:
            free = [name for name, files in drawn.items() if not files & drawn.keys()]
            self.assertNotEqual(free, [], f"a ring among {sorted(drawn)}")
            for name in free:
                del drawn[name]

    def test_no_local_is_called_like_an_import_or_a_class(self):
        for name, tree in self.trees.items():
            classes = {node.name for node in tree.body if isinstance(node, ast.ClassDef)}
            drawn = {part.name for node in tree.body if isinstance(node, ast.ImportFrom) for part in node.names}
            with self.subTest(file=name):
                self.assertEqual(local_names(tree) & (classes | drawn), set())

    def test_names(self):
        for name, tree in self.trees.items():
            for bound in bound_names(tree):
                with self.subTest(file=name, name=bound):
                    self.assertRegex(bound, r"\A([A-Za-z][A-Za-z0-9_]*|__init__)\Z")
                    self.assertNotIn(bound, BANNED_NAMES)
                    self.assertNotIn(bound, dir(builtins))
        for node, where in self.each_node(ast.Name):
            if node.id in dir(builtins):
                self.assertIn(node.id, ALLOWED_BUILTINS, where)

    def test_methods(self):
        methods, values = methods_and_values(self.trees.values())
        self.assertEqual(methods & values, set())
        for node, where in self.each_node(ast.Call):
            if isinstance(node.func, ast.Attribute):
                self.assertIn(node.func.attr, ALLOWED_METHODS | methods, where)
