"""Those rules of the language that can be seen in a file's signs and in its tree."""

import ast
import builtins
import pathlib
import re
import unittest

PACKAGE = pathlib.Path(__file__).resolve().parent.parent / "heightrings"
BANNED_WORDS = re.compile(
    r"\b(type|typing|typing_extensions|enum|Enum|IntEnum|StrEnum|Flag|IntFlag|Generic|Protocol|ABC|ABCMeta"
    r"|namedtuple|NamedTuple|TypedDict|TYPE_CHECKING|abstractmethod)\b|dataclass|overload|contextmanager"
)
BANNED_NAMES = set(
    "register mro elements open input version_info with_traceback add_note attrgetter breakpoint builtins compile"
    " copyright credits delattr dir eval exec exit gc getattr globals hasattr help id importlib license locals"
    " methodcaller os quit setattr super type vars sys".split()
)
PYTHONS_OWN = set(
    "len range enumerate zip min max sum abs sorted reversed int str bool bytes list tuple dict set isinstance ord"
    " repr any all divmod Exception ValueError TypeError KeyError IndexError LookupError ZeroDivisionError"
    " ArithmeticError OverflowError RuntimeError NotImplementedError AttributeError StopIteration".split()
)
METHODS = set(
    "append clear copy count endswith extend find get index insert isalnum isalpha isdigit islower isspace isupper"
    " items join keys ljust lower lstrip partition pop remove replace reverse rfind rjust rpartition rsplit rstrip"
    " setdefault split splitlines startswith strip update upper values zfill bit_length add discard sort"
    " __init__".split()
)
NODES = set(
    "Module Expr Constant ImportFrom alias FunctionDef arguments arg ClassDef Return Assign AugAssign Name Load Store"
    " If While For Break Continue Pass Raise Try ExceptHandler Call keyword Attribute Subscript Slice BinOp Add Sub"
    " Mult FloorDiv Mod Pow LShift RShift BitAnd BitOr BitXor UnaryOp USub Not BoolOp And Or Compare Eq NotEq Lt LtE"
    " Gt GtE Is IsNot In NotIn IfExp List Tuple Dict Set ListComp DictComp SetComp comprehension Lambda JoinedStr"
    " FormattedValue Delete Del Assert Starred".split()
)


def sources():
    for path in sorted(PACKAGE.glob("**/*.py")):
        text = path.read_text(encoding="ascii")
        yield path, text, ast.parse(text)


def bound_names(tree):
    """Every name that a file gives, as a def, a class, a parameter or a value."""
    for node in ast.walk(tree):
        if isinstance(node, (ast.FunctionDef, ast.ClassDef)):
            yield node.name
        elif isinstance(node, ast.arg):
            yield node.arg
        elif isinstance(node, ast.Name) and isinstance(node.ctx, ast.Store):
            yield node.id
        elif isinstance(node, ast.alias):
            yield node.asname or node.name


class LanguageTest(unittest.TestCase):
    def test_the_package_holds_python_files_alone(self):
        for path in PACKAGE.glob("**/*"):
            if "__pycache__" not in path.parts:
                self.assertRegex(path.name, r"^(__init__|[a-z][a-z0-9_]*)\.py$")

    def test_signs_and_sizes(self):
        for path, text, tree in sources():
            with self.subTest(path=path.name):
                self.assertRegex(text, r"\A[ -~\n]*\Z")
                self.assertNotRegex(text, BANNED_WORDS)
                self.assertLessEqual(len(text.splitlines()), 400)
                self.assertLessEqual(max(map(len, text.splitlines())), 120)
                for node in ast.walk(tree):
                    if isinstance(node, ast.FunctionDef):
                        self.assertLessEqual(node.end_lineno - node.lineno + 1, 40, node.name)

    def test_forms(self):
        for path, _, tree in sources():
            for node in ast.walk(tree):
                with self.subTest(path=path.name, line=getattr(node, "lineno", None)):
                    self.assertIn(node.__class__.__name__, NODES)
                    if isinstance(node, ast.Constant):
                        self.assertIsInstance(node.value, (int, str, bytes, bool, type(None)))
                    if isinstance(node, (ast.FunctionDef, ast.ClassDef)):
                        self.assertEqual(node.decorator_list, [])
                    if isinstance(node, ast.arguments):
                        self.assertIsNone(node.vararg or node.kwarg or (node.posonlyargs or None))
                    if isinstance(node, (ast.For, ast.While)):
                        self.assertEqual(node.orelse, [])

    def test_is_stands_beside_none_and_truths_alone(self):
        for path, _, tree in sources():
            for node in ast.walk(tree):
                if isinstance(node, ast.Compare) and isinstance(node.ops[0], (ast.Is, ast.IsNot)):
                    with self.subTest(path=path.name, line=node.lineno):
                        self.assertIn(getattr(node.comparators[0], "value", 0), (None, True, False))

    def test_names(self):
        for path, _, tree in sources():
            drawn = {alias.name for node in ast.walk(tree) if isinstance(node, ast.ImportFrom) for alias in node.names}
            names = list(bound_names(tree))
            for name in names:
                with self.subTest(path=path.name, name=name):
                    self.assertTrue(name == "__init__" or re.match(r"[A-Za-z][A-Za-z0-9_]*\Z", name))
                    self.assertNotIn(name, BANNED_NAMES | set(dir(builtins)) - {"__init__"})
                    self.assertTrue(name not in drawn or names.count(name) == 1)

    def test_names_that_are_asked(self):
        for path, _, tree in sources():
            known = PYTHONS_OWN | set(bound_names(tree))
            for node in ast.walk(tree):
                if isinstance(node, ast.Name):
                    with self.subTest(path=path.name, line=node.lineno):
                        self.assertIn(node.id, known)

    def test_methods_and_values(self):
        own = set()
        for _, _, tree in sources():
            for node in ast.walk(tree):
                if isinstance(node, ast.Attribute) and isinstance(node.ctx, ast.Store):
                    own.add(node.attr)
                elif isinstance(node, ast.ClassDef):
                    own |= {part.name for part in node.body if isinstance(part, ast.FunctionDef)}
        for path, _, tree in sources():
            for node in ast.walk(tree):
                if isinstance(node, ast.Attribute):
                    with self.subTest(path=path.name, line=node.lineno):
                        self.assertIn(node.attr, METHODS | own)

    def test_imports_draw_own_names_and_never_in_a_ring(self):
        drawn = {}
        for path, _, tree in sources():
            drawn[path.stem] = set()
            for node in ast.walk(tree):
                if isinstance(node, ast.ImportFrom):
                    self.assertIn(node, tree.body)
                    self.assertRegex(node.module, r"^heightrings\.[a-z_]+$")
                    drawn[path.stem].add(node.module.partition(".")[2])
        self.assertEqual(drawn["__init__"], set())
        while drawn:
            free = [name for name in drawn if not drawn[name] & set(drawn)]
            self.assertTrue(free, drawn)
            for name in free:
                del drawn[name]


if __name__ == "__main__":
    unittest.main()
