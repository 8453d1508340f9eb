"""The rules of the program's language that can be seen file by file."""

import ast
import pathlib
import re
import unittest

PACKAGE = pathlib.Path(__file__).resolve().parent.parent / "alldone"

FORMS = """
Module FunctionDef ClassDef Return Assign AugAssign For While If Raise Try ImportFrom Expr Pass Break Continue
BoolOp BinOp UnaryOp Lambda IfExp Dict ListComp Compare Call JoinedStr FormattedValue Constant Attribute
Subscript Name List Tuple Slice Load Store And Or Add Sub Mult Mod Pow LShift RShift BitOr BitXor BitAnd FloorDiv
Invert Not UAdd USub Eq NotEq Lt LtE Gt GtE Is IsNot In NotIn comprehension ExceptHandler arguments arg keyword alias
""".split()

OWN_NAMES = """
len range enumerate zip min max sum abs sorted reversed int str bool list tuple dict set frozenset isinstance ord repr
any all divmod Exception ValueError TypeError KeyError IndexError LookupError ZeroDivisionError ArithmeticError
OverflowError RuntimeError NotImplementedError
""".split()

METHODS = """
append clear copy count endswith extend find get index insert isalnum isalpha isdigit islower isspace isupper items join
keys ljust lower lstrip partition pop remove replace reverse rfind rjust rpartition rsplit rstrip setdefault split
splitlines startswith strip update upper values zfill bit_length
""".split()

SPECIAL_METHODS = "__init__ __eq__ __repr__ __str__ __len__".split()

WORDS = re.compile(
    r"\b(type|typing|typing_extensions|enum|Enum|IntEnum|StrEnum|Flag|IntFlag|Generic|Protocol|ABC|ABCMeta|namedtuple"
    r"|NamedTuple|TypedDict|TYPE_CHECKING|abstractmethod)\b|dataclass|overload|contextmanager"
)


def package_files():
    return sorted(path for path in PACKAGE.rglob("*") if path.is_file() and "__pycache__" not in path.parts)


def named(node):
    """The names that a part of the program binds or reads."""
    if isinstance(node, ast.Name):
        return [node.id]
    if isinstance(node, ast.Attribute):
        return [node.attr]
    if isinstance(node, ast.arg):
        return [node.arg]
    if isinstance(node, (ast.FunctionDef, ast.ClassDef)):
        return [node.name]
    return []


class Language(unittest.TestCase):
    def setUp(self):
        self.texts = {path.name: path.read_text(encoding="utf-8") for path in package_files()}
        self.trees = {name: ast.parse(text) for name, text in self.texts.items()}
        self.nodes = [(name, node) for name, tree in self.trees.items() for node in ast.walk(tree)]

    def test_files(self):
        self.assertIn("machines.py", self.texts)
        for name in self.texts:
            self.assertRegex(name, r"^[a-z0-9_]+\.py$")

    def test_signs_words_and_sizes(self):
        for name, text in self.texts.items():
            self.assertRegex(text, r"\A[\n -~]*\Z", name)
            self.assertIsNone(WORDS.search(text), name)
            self.assertLessEqual(len(text.splitlines()), 400, name)
            self.assertLessEqual(max(map(len, text.splitlines())), 120, name)

    def test_forms(self):
        for name, node in self.nodes:
            self.assertIn(type(node).__name__, FORMS, name)
            if isinstance(node, ast.Constant):
                self.assertIn(type(node.value), (int, str, bool, type(None)), name)
            if isinstance(node, ast.Assign):
                self.assertEqual(len(node.targets), 1, name)
            if isinstance(node, (ast.For, ast.While)):
                self.assertEqual(node.orelse, [], name)
            if isinstance(node, ast.ListComp):
                self.assertEqual(len(node.generators), 1, name)

    def test_functions(self):
        for name, node in self.nodes:
            if isinstance(node, (ast.FunctionDef, ast.ClassDef)):
                self.assertEqual(node.decorator_list, [], name)
            if isinstance(node, ast.FunctionDef):
                self.assertLessEqual(node.end_lineno - node.lineno + 1, 40, node.name)
                self.assertFalse(node.args.vararg or node.args.kwarg or node.args.kwonlyargs, node.name)

    def test_names(self):
        for name, node in self.nodes:
            for word in named(node):
                if word not in SPECIAL_METHODS:
                    self.assertRegex(word, r"^[A-Za-z][A-Za-z0-9_]*$", name)

    def test_imports(self):
        for name, node in self.nodes:
            if isinstance(node, ast.ImportFrom):
                self.assertTrue(node.level == 0 and node.module.startswith("alldone."), name)
                self.assertNotIn("*", [alias.name for alias in node.names], name)
                self.assertIn(node, self.trees[name].body, name)

    def test_every_name_that_is_read_is_the_programs_own_or_allowed(self):
        for name, tree in self.trees.items():
            bound = set(OWN_NAMES)
            for node in ast.walk(tree):
                if isinstance(node, ast.ImportFrom):
                    bound.update(alias.name for alias in node.names)
                elif not (isinstance(node, ast.Name) and isinstance(node.ctx, ast.Load)):
                    bound.update(named(node))
            for node in ast.walk(tree):
                if isinstance(node, ast.Name):
                    self.assertIn(node.id, bound, name)
                    if isinstance(node.ctx, ast.Store):
                        self.assertNotIn(node.id, OWN_NAMES, name)

    def test_methods(self):
        own = [node.name for name, node in self.nodes if isinstance(node, ast.FunctionDef)]
        for name, node in self.nodes:
            if isinstance(node, ast.Call) and isinstance(node.func, ast.Attribute):
                self.assertIn(node.func.attr, METHODS + own, name)

    def test_no_name_is_a_method_and_a_value(self):
        classes = [node for name, node in self.nodes if isinstance(node, ast.ClassDef)]
        methods = {part.name for node in classes for part in node.body if isinstance(part, ast.FunctionDef)}
        attributes = [node for name, node in self.nodes if isinstance(node, ast.Attribute)]
        values = {node.attr for node in attributes if isinstance(node.ctx, ast.Store)}
        self.assertEqual(methods & values, set())


if __name__ == "__main__":
    unittest.main()
