"""The package keeps to the small part of Python it is written in: what can be read off its files."""

import ast
import builtins
import re
import unittest
from pathlib import Path

PACKAGE = Path(__file__).resolve().parent.parent / "turningthings"

STATEMENTS = """Module FunctionDef arguments arg Assign AugAssign If While For Return Break Continue Pass Raise
    Try ExceptHandler Expr""".split()
EXPRESSIONS = """Name Load Store Constant List Tuple Dict BinOp UnaryOp BoolOp Compare IfExp Call keyword Attribute
    Subscript Slice ListComp comprehension Lambda JoinedStr FormattedValue""".split()
SIGNS = """Add Sub Mult FloorDiv Mod Pow BitAnd BitOr BitXor LShift RShift Invert USub UAdd Not And Or
    Eq NotEq Lt LtE Gt GtE Is IsNot In NotIn""".split()
OWN_NAMES = """len range enumerate zip min max sum abs sorted reversed int str bool list tuple dict set isinstance
    ord repr any all divmod KeyError ZeroDivisionError""".split()
METHODS = """append clear copy count endswith extend find get index insert items join keys pop remove replace
    reverse setdefault split startswith strip update values bit_length""".split()
WORDS_LEFT_OUT = """type typing typing_extensions enum Enum IntEnum StrEnum Flag IntFlag Generic Protocol ABC ABCMeta
    namedtuple NamedTuple TypedDict TYPE_CHECKING abstractmethod""".split()


def files():
    return sorted(PACKAGE.glob("*.py"))


class Form(unittest.TestCase):
    def test_nothing_else_lies_in_the_package(self):
        found = sorted(p.name for p in PACKAGE.iterdir() if p.name != "__pycache__")
        self.assertEqual(found, ["__init__.py", "tables.py"])

    def test_signs_and_sizes(self):
        for path in files():
            text = path.read_bytes().decode("ascii")
            self.assertRegex(text, r"\A[\n -~]*\Z")
            self.assertLessEqual(text.count("\n"), 400)
            self.assertLessEqual(max(len(row) for row in text.split("\n")), 120)
            for word in re.findall(r"\w+", text):
                self.assertNotIn(word, WORDS_LEFT_OUT)

    def test_statements_and_expressions(self):
        for path in files():
            for node in ast.walk(ast.parse(path.read_text())):
                with self.subTest(path.name, line=getattr(node, "lineno", 0)):
                    # Import rows are not among them: the functions import nothing.
                    self.assertIn(type(node).__name__, STATEMENTS + EXPRESSIONS + SIGNS)
                    self.check_node(node)

    def check_node(self, node):
        if isinstance(node, ast.FunctionDef):
            self.assertLessEqual(node.end_lineno - node.lineno + 1, 40)
            self.assertEqual(node.decorator_list, [])
            self.assertIsNone(node.args.vararg or node.args.kwarg)
            self.assertEqual(node.args.kwonlyargs + node.args.posonlyargs, [])
            self.assertNotIn(node.name, dir(builtins))
        if isinstance(node, ast.arg) or isinstance(node, ast.Name) and isinstance(node.ctx, ast.Store):
            name = node.arg if isinstance(node, ast.arg) else node.id
            self.assertNotIn(name, dir(builtins))
            self.assertRegex(name, r"\A[A-Za-z][A-Za-z0-9_]*\Z")
        if isinstance(node, ast.Name) and node.id in dir(builtins):
            self.assertIn(node.id, OWN_NAMES)
        if isinstance(node, ast.Attribute):
            self.assertIn(node.attr, METHODS)
        if isinstance(node, ast.Assign):
            self.assertEqual(len(node.targets), 1)
        if isinstance(node, (ast.For, ast.While)):
            self.assertEqual(node.orelse, [])
        if isinstance(node, ast.Constant):
            self.assertIn(type(node.value), (int, str, bool, type(None)))

    def test_names_at_the_top_are_bound_once(self):
        for path in files():
            names = []
            for node in ast.parse(path.read_text()).body:
                if isinstance(node, ast.FunctionDef):
                    names.append(node.name)
                if isinstance(node, ast.Assign):
                    names.append(node.targets[0].id)
                    ast.literal_eval(node.value)
            self.assertEqual(len(names), len(set(names)))

    def test_no_function_calls_itself(self):
        # Nothing is as long as its input and nested: tables are gone through by loops.
        for path in files():
            calls = {}
            for node in ast.parse(path.read_text()).body:
                if isinstance(node, ast.FunctionDef):
                    calls[node.name] = {c.func.id for c in ast.walk(node)
                                        if isinstance(c, ast.Call) and isinstance(c.func, ast.Name)}
            for name in calls:
                met, ahead = set(), set(calls[name])
                while ahead:
                    met |= ahead
                    ahead = {c for m in ahead for c in calls.get(m, ())} - met
                self.assertNotIn(name, met)


if __name__ == "__main__":
    unittest.main()
