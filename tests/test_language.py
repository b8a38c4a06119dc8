"""The package keeps to its small part of Python, as far as a walk through its files can see."""

import ast
import builtins
import pathlib
import re
import unittest

PACKAGE = pathlib.Path(__file__).resolve().parent.parent / "oneleader"

NODES = (
    "Module FunctionDef ClassDef arguments arg Return Assign AugAssign For While If Raise Try ExceptHandler "
    "ImportFrom alias Expr Pass Break Continue Name Load Store Attribute Subscript Slice Call keyword Constant List "
    "Tuple Dict BinOp UnaryOp BoolOp Compare IfExp ListComp comprehension Lambda JoinedStr FormattedValue Add Sub "
    "Mult FloorDiv Mod Pow LShift RShift BitOr BitAnd BitXor Invert Not USub UAdd And Or Eq NotEq Lt LtE Gt GtE Is "
    "IsNot In NotIn").split()

BUILTINS = (
    "len range enumerate zip min max sum abs sorted reversed int str bool list tuple dict set frozenset isinstance "
    "ord repr any all divmod Exception ValueError TypeError KeyError IndexError LookupError ZeroDivisionError "
    "ArithmeticError OverflowError RuntimeError NotImplementedError AttributeError StopIteration").split()

WORDS = (
    "type typing typing_extensions enum Enum IntEnum StrEnum Flag IntFlag Generic Protocol ABC ABCMeta namedtuple "
    "NamedTuple TypedDict TYPE_CHECKING abstractmethod").split()

OWN_METHODS = (
    "append clear copy count endswith extend find get index insert isalnum isalpha isdigit islower isspace isupper "
    "items join keys ljust lower lstrip partition pop remove replace reverse rfind rjust rpartition rsplit rstrip "
    "setdefault split splitlines startswith strip update upper values zfill bit_length").split()


def files():
    return sorted(path for path in PACKAGE.rglob("*") if "__pycache__" not in path.parts)


def names_of_pythons_values():
    return {name for value in ("", 0, [], {}, set(), b"") for name in dir(value)}


def defaults(tree):
    """Each default of each parameter, of functions within functions and of lambdas too."""
    found = []
    for node in ast.walk(tree):
        if isinstance(node, (ast.FunctionDef, ast.AsyncFunctionDef, ast.Lambda)):
            found += node.args.defaults + [default for default in node.args.kw_defaults if default is not None]
    return found


def is_written_plainly(node):
    """A whole number, a text, True, False or None, as it is written; a name for one is none."""
    if isinstance(node, ast.UnaryOp) and isinstance(node.op, ast.USub):
        return isinstance(node.operand, ast.Constant) and type(node.operand.value) is int
    return isinstance(node, ast.Constant) and type(node.value) in (int, str, bool, type(None))


class TestLanguage(unittest.TestCase):
    def trees(self):
        return [(path, ast.parse(path.read_text(encoding="ascii"))) for path in files()]

    def nodes(self):
        return [(path, node) for path, tree in self.trees() for node in ast.walk(tree)]

    def test_files(self):
        self.assertIn(PACKAGE / "__init__.py", files())
        for path in files():
            self.assertRegex(path.name, r"^(__init__|[a-z][a-z0-9_]*)\.py$")
            self.assertNotIn(path.stem, dir(builtins))

    def test_signs_and_sizes(self):
        for path in files():
            text = path.read_bytes().decode("ascii")
            self.assertRegex(text, r"\A[\n -~]*\Z")
            self.assertLessEqual(len(text.split("\n")), 401)
            self.assertLessEqual(max(len(line) for line in text.split("\n")), 120)

    def test_words(self):
        for path in files():
            text = path.read_text()
            self.assertEqual(sorted(set(re.findall(r"\w+", text)) & set(WORDS)), [])
            self.assertIsNone(re.search("dataclass|overload|contextmanager", text))

    def test_statements_and_expressions(self):
        for path, node in self.nodes():
            self.assertIn(node.__class__.__name__, NODES, path)
            if isinstance(node, ast.Constant):
                self.assertIn(node.value.__class__.__name__, ("int", "str", "bool", "NoneType"), path)
            if isinstance(node, (ast.For, ast.While)):
                self.assertEqual(node.orelse, [], path)
            if isinstance(node, ast.Assign):
                self.assertEqual(len(node.targets), 1, path)

    def test_defs(self):
        for path, node in self.nodes():
            if isinstance(node, ast.FunctionDef):
                self.assertLessEqual(node.end_lineno - node.lineno + 1, 40, node.name)
                self.assertEqual(node.decorator_list, [])
                given = node.args
                self.assertEqual((given.vararg, given.kwarg, given.kwonlyargs, given.posonlyargs), (None, None, [], []))
            if isinstance(node, ast.ClassDef):
                self.assertEqual(node.decorator_list, [])
                self.assertLessEqual(len(node.bases), 1)

    def test_defaults(self):
        for path, tree in self.trees():
            for default in defaults(tree):
                self.assertTrue(is_written_plainly(default), (path, default.lineno, ast.unparse(default)))

    def test_which_defaults_are_found_and_which_are_plain(self):
        for text in ("0", "7", "-1", "'a'", "''", "True", "False", "None"):
            self.assertTrue(self.all_plain(text), text)
        for text in ("()", "[]", "{}", "(1,)", "[0]", "{1: 2}", "tuple()", "NAME", "1.0", "-1.5", "-True", "b'a'",
                     "...", "1 + 1", "lambda: 0", "f'a'", "set()", "not 1"):
            self.assertFalse(self.all_plain(text), text)

    def all_plain(self, text):
        """How a default is held in each place where one may stand; all places must say the same."""
        places = (f"def f(a, b={text}): pass", f"def f(a={text}, b=0): pass", f"def f(*, a={text}): pass",
                  f"class C:\n    def f(self, a={text}): pass", f"def f():\n    def g(a={text}): pass",
                  f"x = lambda a={text}: a", f"def f(a, /, b={text}): pass")
        held = {all(is_written_plainly(default) for default in defaults(ast.parse(place))) for place in places}
        self.assertEqual(len(held), 1, text)
        return held.pop()

    def test_imports(self):
        for path, tree in self.trees():
            for node in ast.walk(tree):
                if isinstance(node, ast.ImportFrom):
                    self.assertIn(node, tree.body)
                    self.assertEqual(node.level, 0)
                    source = PACKAGE.parent.joinpath(*node.module.split(".")).with_suffix(".py")
                    top = ast.parse(source.read_text()).body
                    defined = [item.name for item in top if isinstance(item, (ast.FunctionDef, ast.ClassDef))]
                    defined += [item.targets[0].id for item in top if isinstance(item, ast.Assign)]
                    for alias in node.names:
                        self.assertIn(alias.name, defined, path)

    def test_names(self):
        for path, node in self.nodes():
            if isinstance(node, ast.Name):
                self.assertRegex(node.id, "^[a-zA-Z]")
                if node.id in dir(builtins):
                    self.assertIn(node.id, BUILTINS, path)
                    self.assertIsInstance(node.ctx, ast.Load, path)
            if isinstance(node, ast.arg):
                self.assertNotIn(node.arg, dir(builtins), path)

    def test_methods_and_values(self):
        methods, values = set(), set()
        for path, node in self.nodes():
            if isinstance(node, ast.ClassDef):
                methods |= {item.name for item in node.body if isinstance(item, ast.FunctionDef)}
            if isinstance(node, ast.Attribute) and isinstance(node.ctx, ast.Store):
                values.add(node.attr)
        self.assertEqual(methods & values, set())
        self.assertEqual((methods | values) & names_of_pythons_values() - {"__init__"}, set())
        for path, node in self.nodes():
            if isinstance(node, ast.Attribute):
                self.assertIn(node.attr, methods | values | set(OWN_METHODS), path)


if __name__ == "__main__":
    unittest.main()
