"""The package keeps to the small part of Python it is written in: what of those rules can be seen at a glance.

Among them is that nothing uses a clock, chance or files: there is no import and no name to reach them by.
"""

import ast
import builtins
import pathlib
import re
import unittest

PACKAGE = pathlib.Path(__file__).resolve().parent.parent / "zerofence"
FILES = sorted(PACKAGE.glob("*.py"))

ERROR_NAMES = """Exception ValueError TypeError KeyError IndexError LookupError ZeroDivisionError ArithmeticError
OverflowError RuntimeError NotImplementedError AttributeError StopIteration""".split()
OWN_NAMES = """len range enumerate zip min max sum abs sorted reversed int str bool list tuple dict set frozenset
isinstance ord repr any all divmod""".split() + ERROR_NAMES
METHODS = """append clear copy count endswith extend find get index insert isalnum isalpha isdigit islower isspace
isupper items join keys ljust lower lstrip partition pop remove replace reverse rfind rjust rpartition rsplit rstrip
setdefault split splitlines startswith strip update upper values zfill bit_length""".split()
WORDS = """type typing typing_extensions enum Enum IntEnum StrEnum Flag IntFlag Generic Protocol ABC ABCMeta namedtuple
NamedTuple TypedDict TYPE_CHECKING abstractmethod""".split()
NODES = """Module FunctionDef arguments arg ClassDef ImportFrom alias Expr Assign AugAssign If While For Return Break
Continue Pass Raise Try ExceptHandler Constant List Tuple Dict Set ListComp comprehension Name Load Store Attribute
Subscript Slice Call keyword Lambda IfExp BoolOp And Or UnaryOp Not USub UAdd Invert BinOp Add Sub Mult FloorDiv Mod Pow
BitAnd BitOr BitXor LShift RShift Compare Eq NotEq Lt LtE Gt GtE Is IsNot In NotIn JoinedStr FormattedValue""".split()


class TheFiles(unittest.TestCase):
    def test_there_are_some_and_nothing_else(self):
        names = [path.name for path in PACKAGE.iterdir() if path.name != "__pycache__"]
        self.assertIn("__init__.py", names)
        for name in names:
            self.assertRegex(name, r"\A[a-z0-9_]+\.py\Z")

    def test_signs_and_sizes(self):
        for file in FILES:
            text = file.read_text(encoding="utf-8")
            with self.subTest(file=file.name):
                self.assertRegex(text, r"\A[ -~\n]*\Z")
                self.assertLessEqual(len(text.splitlines()), 400)
                self.assertLessEqual(max(len(line) for line in text.splitlines()), 120)
                self.assertFalse(set(re.findall(r"\w+", text)) & set(WORDS))
                self.assertNotRegex(text, "dataclass|overload|contextmanager")


class TheCode(unittest.TestCase):
    def each(self, *kinds):
        """Each node of these kinds, and where it stands, for a failure to tell."""
        for file in FILES:
            for node in ast.walk(ast.parse(file.read_text(encoding="utf-8"))):
                if isinstance(node, kinds):
                    yield node, f"{file.name}, line {getattr(node, 'lineno', 0)}"

    def test_no_other_form(self):
        for node, where in self.each(ast.AST):
            self.assertIn(node.__class__.__name__, NODES, where)

    def test_imports_are_the_packages_own(self):
        for node, where in self.each(ast.ImportFrom):
            self.assertEqual(node.level, 0, where)
            self.assertRegex(node.module, r"\Azerofence\.[a-z_]+\Z", where)
            self.assertTrue(all(alias.name != "*" for alias in node.names), where)

    def test_functions_are_short_and_plain(self):
        for node, where in self.each(ast.FunctionDef):
            self.assertLessEqual(node.end_lineno - node.lineno + 1, 40, where)
            self.assertEqual(node.decorator_list, [], where)
            self.assertFalse(node.args.vararg or node.args.kwarg, where)
            self.assertEqual(node.args.kwonlyargs + node.args.posonlyargs, [], where)

    def test_assignments_have_one_target(self):
        for node, where in self.each(ast.Assign):
            self.assertEqual(len(node.targets), 1, where)
            self.assertNotIsInstance(node.targets[0], (ast.Tuple, ast.List), where)

    def test_only_calls_stand_by_themselves(self):
        for node, where in self.each(ast.Expr):
            text = isinstance(node.value, ast.Constant) and node.lineno == 1
            self.assertTrue(text or isinstance(node.value, ast.Call), where)

    def test_names(self):
        for node, where in self.each(ast.Name):
            self.assertRegex(node.id, r"\A[A-Za-z][A-Za-z0-9_]*\Z", where)
            if node.id in dir(builtins):
                self.assertIn(node.id, OWN_NAMES, where)
                self.assertIsInstance(node.ctx, ast.Load, where)

    def test_parameters_and_functions_have_no_name_of_pythons_own(self):
        for node, where in self.each(ast.arg, ast.FunctionDef):
            self.assertNotIn(node.arg if isinstance(node, ast.arg) else node.name, dir(builtins), where)

    def test_methods_of_pythons_own_values(self):
        for node, where in self.each(ast.Attribute):
            self.assertIn(node.attr, METHODS, where)

    def test_values_are_whole_numbers_and_texts(self):
        for node, where in self.each(ast.Constant):
            self.assertIsInstance(node.value, (int, str, type(None)), where)

    def test_a_value_error_is_taken_round_one_call_alone(self):
        for node, where in self.each(ast.Try):
            self.assertEqual([handler.type.id for handler in node.handlers], ["ValueError"], where)
            self.assertEqual(len(node.body), 1, where)
            calls = [part.func.id for part in ast.walk(node.body[0]) if isinstance(part, ast.Call)]
            self.assertEqual(calls, ["int"], where)

    def test_powers_are_written_out(self):
        for node, where in self.each(ast.BinOp):
            if isinstance(node.op, ast.Pow):
                self.assertIsInstance(node.right, ast.Constant, where)
                self.assertIn(node.right.value, range(65), where)


if __name__ == "__main__":
    unittest.main()
