"""The package keeps to the part of Python that it is written in, as far as its form shows it."""

import ast
import pathlib
import re
import unittest

PACKAGE = pathlib.Path(__file__).resolve().parent.parent / "steppedover"

NODES = """
    Module FunctionDef ClassDef Return Assign AugAssign For While If Raise Try ExceptHandler Expr Pass Break Continue
    BoolOp BinOp UnaryOp Lambda IfExp Dict List Tuple ListComp comprehension Compare Call JoinedStr FormattedValue
    Constant Attribute Subscript Name Slice Load Store And Or Add Sub Mult Mod Pow LShift RShift BitOr BitXor BitAnd
    FloorDiv Invert Not UAdd USub Eq NotEq Lt LtE Gt GtE Is IsNot In NotIn arguments arg keyword
""".split()

OWN_NAMES = """
    len range enumerate zip min max sum abs sorted reversed int str bool list tuple dict set frozenset isinstance ord
    repr any all divmod Exception ValueError TypeError KeyError IndexError LookupError ZeroDivisionError
    ArithmeticError OverflowError RuntimeError NotImplementedError AttributeError StopIteration
""".split()

METHODS = """
    append clear copy count endswith extend find get index insert isalnum isalpha isdigit islower isspace isupper items
    join keys ljust lower lstrip partition pop remove replace reverse rfind rjust rpartition rsplit rstrip setdefault
    split splitlines startswith strip update upper values zfill bit_length
""".split()

WORDS = """
    type typing typing_extensions enum Enum IntEnum StrEnum Flag IntFlag Generic Protocol ABC ABCMeta namedtuple
    NamedTuple TypedDict TYPE_CHECKING abstractmethod
""".split()


def files():
    return sorted(PACKAGE.glob("*.py"))


def trees():
    return [ast.parse(file.read_text(encoding="ascii")) for file in files()]


def nodes(*kinds):
    return [node for tree in trees() for node in ast.walk(tree) if isinstance(node, kinds)]


def bound_names():
    names = [node.id for node in nodes(ast.Name) if isinstance(node.ctx, ast.Store)]
    names += [node.arg for node in nodes(ast.arg)]
    names += [node.name for node in nodes(ast.FunctionDef, ast.ClassDef)]
    return names


class Language(unittest.TestCase):
    def test_files(self):
        there = sorted(file.name for file in PACKAGE.iterdir() if file.name != "__pycache__")
        self.assertEqual(there, ["__init__.py", "river.py"])

    def test_signs_and_size(self):
        for file in files():
            text = file.read_bytes().decode("ascii")
            self.assertTrue(all(sign == "\n" or " " <= sign <= "~" for sign in text))
            self.assertLessEqual(len(text.splitlines()), 400)
            self.assertLessEqual(max(len(row) for row in text.splitlines()), 120)
            self.assertEqual([word for word in WORDS if re.search(rf"\b{word}\b", text)], [])
            self.assertIsNone(re.search("dataclass|overload|contextmanager", text))
        for node in nodes(ast.FunctionDef):
            self.assertLessEqual(node.end_lineno - node.lineno + 1, 40, node.name)

    def test_nothing_is_imported_and_every_form_is_allowed(self):
        kinds = {kind.__name__ for kind in map(type, nodes(ast.AST))}
        self.assertEqual(sorted(kinds - set(NODES)), [])

    def test_forms_of_functions_and_loops(self):
        for node in nodes(ast.FunctionDef, ast.ClassDef):
            self.assertEqual(node.decorator_list, [])
        for node in nodes(ast.arguments):
            self.assertEqual((node.vararg, node.kwarg, node.kwonlyargs, node.posonlyargs), (None, None, [], []))
        for node in nodes(ast.For, ast.While):
            self.assertEqual(node.orelse, [])
        for node in nodes(ast.Assign):
            self.assertEqual(len(node.targets), 1)
        for node in nodes(ast.ListComp):
            self.assertEqual((len(node.generators), len(node.generators[0].ifs) <= 1), (1, True))

    def test_values(self):
        for node in nodes(ast.Constant):
            self.assertIn(type(node.value), (int, str, bool, type(None)))

    def test_names(self):
        names = bound_names()
        for name in names:
            self.assertTrue(name == "__init__" or re.fullmatch("[A-Za-z][A-Za-z0-9_]*", name), name)
        builtin = __builtins__ if isinstance(__builtins__, dict) else vars(__builtins__)
        self.assertEqual([name for name in names if name in builtin], [])
        read = {node.id for node in nodes(ast.Name)}
        self.assertEqual(sorted(read - set(names) - set(OWN_NAMES)), [])

    def test_each_name_once_at_the_top(self):
        for tree in trees():
            top = [node.name for node in tree.body if isinstance(node, (ast.FunctionDef, ast.ClassDef))]
            top += [node.targets[0].id for node in tree.body if isinstance(node, ast.Assign)]
            self.assertEqual(sorted(top), sorted(set(top)))

    def test_methods(self):
        own = {node.name for node in nodes(ast.FunctionDef)}
        for node in nodes(ast.Call):
            if isinstance(node.func, ast.Attribute):
                self.assertIn(node.func.attr, own | set(METHODS))


if __name__ == "__main__":
    unittest.main()
