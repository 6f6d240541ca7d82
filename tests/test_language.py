"""The package keeps to the part of Python that it's held to, as far as a short look can tell."""
import ast
import builtins
import pathlib
import re
import unittest

PACKAGE = pathlib.Path(__file__).resolve().parent.parent / "keylogs"
FILES = sorted(PACKAGE.rglob("*.py"))

NODES = """Module FunctionDef arguments arg ClassDef Return Assign AugAssign For While If Raise Try ExceptHandler
ImportFrom alias Expr Pass Break Continue BoolOp BinOp UnaryOp Lambda IfExp Dict Set ListComp comprehension Compare
Call FormattedValue JoinedStr Constant Attribute Subscript Name List Tuple Slice keyword Load Store And Or Add Sub
Mult FloorDiv Mod Pow LShift RShift BitOr BitXor BitAnd Invert Not UAdd USub Eq NotEq Lt LtE Gt GtE Is IsNot In
NotIn""".split()
BUILTINS = """len range enumerate zip min max sum abs sorted reversed int str bool list tuple dict set frozenset
isinstance ord repr any all divmod Exception ValueError TypeError KeyError IndexError LookupError ZeroDivisionError
ArithmeticError OverflowError RuntimeError NotImplementedError AttributeError StopIteration""".split()
METHODS = """append clear copy count endswith extend find get index insert isalnum isalpha isdigit islower isspace
isupper items join keys ljust lower lstrip partition pop remove replace reverse rfind rjust rpartition rsplit rstrip
setdefault split splitlines startswith strip update upper values zfill bit_length""".split()
WORDS = """type typing typing_extensions enum Enum IntEnum StrEnum Flag IntFlag Generic Protocol ABC ABCMeta
namedtuple NamedTuple TypedDict TYPE_CHECKING abstractmethod""".split()
NOT_NAMES = """register mro elements open input version_info with_traceback add_note attrgetter breakpoint builtins
compile copyright credits delattr dir eval exec exit gc getattr globals hasattr help id importlib license locals
methodcaller os quit setattr super type vars sys""".split()
TWO_UNDERSCORES = ["__init__", "__eq__", "__repr__", "__str__", "__len__"]


def bound_names(tree):
    """Every name that a file binds: defs, classes, parameters, assigned names."""
    for node in ast.walk(tree):
        if isinstance(node, (ast.FunctionDef, ast.ClassDef)):
            yield node.name
        elif isinstance(node, ast.arg):
            yield node.arg
        elif isinstance(node, ast.Name) and isinstance(node.ctx, ast.Store):
            yield node.id
        elif isinstance(node, ast.alias):
            yield node.name


class LanguageTest(unittest.TestCase):
    def each(self, check):
        self.assertIn(PACKAGE / "__init__.py", FILES)
        for path in FILES:
            text = path.read_text(encoding="utf-8")
            with self.subTest(file=path.name):
                check(text, ast.parse(text))

    def test_files(self):
        for path in PACKAGE.rglob("*"):
            if "__pycache__" not in path.parts:
                self.assertRegex(path.name, r"^([a-z][a-z0-9_]*|__init__|__main__)\.py$")
                self.assertNotIn(path.stem, dir(builtins))
                self.assertNotRegex(path.stem, r"^(test.*|tests|testing|site|conftest)$")

    def test_size_and_signs(self):
        self.each(self.check_size_and_signs)

    def check_size_and_signs(self, text, tree):
        lines = text.split("\n")
        self.assertLessEqual(len(lines), 400)
        self.assertLessEqual(max(len(line) for line in lines), 120)
        self.assertRegex(text, r"^[ -~\n]*$")
        for node in ast.walk(tree):
            if isinstance(node, ast.FunctionDef):
                self.assertLessEqual(node.end_lineno - node.lineno + 1, 40)

    def test_words(self):
        self.each(self.check_words)

    def check_words(self, text, tree):
        self.assertEqual(set(re.findall(r"\w+", text)) & set(WORDS), set())
        self.assertNotRegex(text, "dataclass|overload|contextmanager")

    def test_nodes(self):
        self.each(self.check_nodes)

    def check_nodes(self, text, tree):
        for node in ast.walk(tree):
            self.assertIn(node.__class__.__name__, NODES)
            if isinstance(node, (ast.FunctionDef, ast.ClassDef)):
                self.assertEqual(node.decorator_list, [])
            if isinstance(node, (ast.For, ast.While)):
                self.assertEqual(node.orelse, [])
            if isinstance(node, ast.Assign):
                self.assertEqual(len(node.targets), 1)
            if isinstance(node, ast.Constant):
                self.assertIsInstance(node.value, (int, str, bool, None.__class__))
            if isinstance(node, ast.ListComp):
                self.assertEqual(len(node.generators), 1)
                self.assertLessEqual(len(node.generators[0].ifs), 1)

    def test_imports(self):
        self.each(self.check_imports)

    def check_imports(self, text, tree):
        for node in ast.walk(tree):
            if isinstance(node, ast.ImportFrom):
                self.assertIn(node, tree.body)
                self.assertEqual(node.level, 0)
                self.assertRegex(node.module, r"^keylogs\.[a-z0-9_.]+$")
                home = PACKAGE.parent / (node.module.replace(".", "/") + ".py")
                names = set(bound_names(ast.parse(home.read_text(encoding="utf-8"))))
                for alias in node.names:
                    self.assertIsNone(alias.asname)
                    self.assertIn(alias.name, names)

    def test_top_of_a_file(self):
        self.each(self.check_top_of_a_file)

    def check_top_of_a_file(self, text, tree):
        self.assertIsNotNone(ast.get_docstring(tree))
        bound = []
        for node in tree.body[1:]:
            self.assertIsInstance(node, (ast.ImportFrom, ast.FunctionDef, ast.ClassDef, ast.Assign))
            if isinstance(node, ast.Assign):
                ast.literal_eval(node.value)
                bound.append(node.targets[0].id)
            elif not isinstance(node, ast.ImportFrom):
                bound.append(node.name)
        self.assertEqual(len(bound), len(set(bound)))

    def test_names(self):
        self.each(self.check_names)

    def check_names(self, text, tree):
        for name in bound_names(tree):
            if name not in TWO_UNDERSCORES:
                self.assertRegex(name, r"^[A-Za-z][A-Za-z0-9_]*$")
                self.assertNotIn(name, NOT_NAMES)
        imported = {alias.name for node in tree.body if isinstance(node, ast.ImportFrom) for alias in node.names}
        for node in ast.walk(tree):
            if isinstance(node, ast.Name) and node.id in dir(builtins):
                self.assertIsInstance(node.ctx, ast.Load)
                self.assertIn(node.id, BUILTINS)
            local = node.arg if isinstance(node, ast.arg) else None
            if isinstance(node, ast.Name) and isinstance(node.ctx, ast.Store):
                local = node.id
            self.assertNotIn(local, imported)
            self.assertNotIn(local, dir(builtins))

    def test_methods(self):
        own = set(METHODS)
        for path in FILES:
            for node in ast.walk(ast.parse(path.read_text(encoding="utf-8"))):
                if isinstance(node, ast.ClassDef):
                    own.update(part.name for part in node.body if isinstance(part, ast.FunctionDef))
                if isinstance(node, ast.Attribute) and isinstance(node.ctx, ast.Store):
                    own.add(node.attr)
        self.each(lambda text, tree: self.check_methods(tree, own))

    def test_methods_and_values(self):
        methods = set()
        values = set()
        for path in FILES:
            for node in ast.walk(ast.parse(path.read_text(encoding="utf-8"))):
                if isinstance(node, ast.ClassDef):
                    names = [part.name for part in node.body if isinstance(part, ast.FunctionDef)]
                    self.assertEqual(len(names), len(set(names)))
                    methods.update(names)
                if isinstance(node, ast.Attribute) and isinstance(node.ctx, ast.Store):
                    values.add(node.attr)
        self.assertEqual(methods & values, set())
        taken = {name for kind in (str, int, list, tuple, dict, set, frozenset, bytes) for name in dir(kind)}
        self.assertEqual(values & taken, set())
        self.assertEqual(methods & taken - set(TWO_UNDERSCORES), set())

    def test_no_circle_of_imports(self):
        drawn = {}
        for path in FILES:
            tree = ast.parse(path.read_text(encoding="utf-8"))
            drawn[path.stem] = {node.module.split(".")[1] for node in tree.body if isinstance(node, ast.ImportFrom)}
        while drawn:
            free = [name for name, others in drawn.items() if not others & set(drawn)]
            self.assertNotEqual(free, [])
            for name in free:
                drawn.pop(name)

    def check_methods(self, tree, own):
        for node in ast.walk(tree):
            if isinstance(node, ast.Attribute):
                self.assertIn(node.attr, own)


if __name__ == "__main__":
    unittest.main()
