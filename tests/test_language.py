"""Holds the package's files to what of LANGUAGE.md can be seen from a file's tree."""

import ast
import builtins
import pathlib
import re
import unittest

PACKAGE = pathlib.Path(__file__).resolve().parent.parent / "glasshelpers"

NODES = """Module ImportFrom alias FunctionDef arguments arg ClassDef Assign AugAssign
If While For Return Break Continue Pass
Raise Try ExceptHandler Expr Name Load Store Constant List Tuple Dict Set BinOp Add Sub Mult FloorDiv Mod Pow
BitAnd BitOr BitXor LShift RShift UnaryOp USub Invert Not BoolOp And Or Compare Eq NotEq Lt LtE Gt GtE In NotIn
Is IsNot IfExp Call keyword Attribute Subscript Slice ListComp comprehension JoinedStr FormattedValue
Lambda""".split()
BUILTINS = """len range enumerate zip min max sum abs sorted reversed int str bool list tuple dict set frozenset
isinstance ord repr any all divmod Exception ValueError TypeError KeyError IndexError LookupError
ZeroDivisionError ArithmeticError OverflowError RuntimeError NotImplementedError StopIteration""".split()
OWN_METHODS = """append clear copy count endswith extend find get index insert isalnum isalpha isdigit islower
isspace isupper items join keys ljust lower lstrip partition pop remove replace reverse rfind rjust rpartition
rsplit rstrip setdefault split splitlines startswith strip update upper values zfill bit_length""".split()
WORDS = """type typing typing_extensions enum Enum IntEnum StrEnum Flag IntFlag Generic Protocol ABC ABCMeta
namedtuple NamedTuple TypedDict TYPE_CHECKING abstractmethod""".split()
PYTHONS_OWN = dir(builtins)


def package_files():
    return sorted(path for path in PACKAGE.rglob("*") if path.is_file() and "__pycache__" not in path.parts)


def nodes(kind):
    for path in package_files():
        for node in ast.walk(ast.parse(path.read_text(encoding="utf-8"))):
            if isinstance(node, kind):
                yield path.name, node


class Language(unittest.TestCase):
    def test_files_have_plain_names_and_plain_signs(self):
        self.assertIn("__init__.py", [path.name for path in package_files()])
        for path in package_files():
            self.assertRegex(path.name, r"^([a-z][a-z0-9_]*|__init__|__main__)\.py$")
            self.assertRegex(path.read_text(encoding="utf-8"), r"^[ -~\n]*$")

    def test_sizes(self):
        for path in package_files():
            rows = path.read_text(encoding="utf-8").split("\n")
            self.assertLessEqual(len(rows), 400, path.name)
            self.assertLessEqual(max(len(row) for row in rows), 120, path.name)
        for name, node in nodes(ast.FunctionDef):
            self.assertLessEqual(node.end_lineno - node.lineno + 1, 40, (name, node.name))

    def test_classes_hold_methods_alone(self):
        for name, node in nodes(ast.ClassDef):
            self.assertEqual(node.decorator_list, [], name)
            for row in node.body:
                self.assertIsInstance(row, (ast.FunctionDef, ast.Pass), (name, node.name))

    def test_words_that_stand_nowhere(self):
        for path in package_files():
            text = path.read_text(encoding="utf-8")
            self.assertEqual([word for word in re.findall(r"\w+", text) if word in WORDS], [], path.name)
            self.assertNotRegex(text, "dataclass|overload|contextmanager")

    def test_only_plain_statements_and_expressions(self):
        for name, node in nodes((ast.mod, ast.stmt, ast.expr, ast.operator, ast.unaryop, ast.cmpop, ast.arguments)):
            self.assertIn(node.__class__.__name__, NODES, (name, ast.dump(node)))
        for name, node in nodes((ast.For, ast.While)):
            self.assertEqual(node.orelse, [], name)
        for name, node in nodes(ast.Assign):
            self.assertEqual(len(node.targets), 1, name)
        for name, node in nodes(ast.ListComp):
            self.assertEqual(len(node.generators), 1, name)
        for name, node in nodes(ast.FunctionDef):
            self.assertEqual((node.decorator_list, node.args.vararg, node.args.kwarg), ([], None, None), name)
        for name, node in nodes(ast.Constant):
            self.assertIn(node.value.__class__, (int, str, bool, None.__class__), name)

    def test_what_stands_by_itself_is_a_call_or_a_files_docstring(self):
        for path in package_files():
            tree = ast.parse(path.read_text(encoding="utf-8"))
            for node in ast.walk(tree):
                if isinstance(node, ast.Expr) and node != tree.body[0]:
                    self.assertIsInstance(node.value, ast.Call, (path.name, node.lineno))

    def test_is_stands_beside_none_true_and_false_alone(self):
        for name, node in nodes(ast.Compare):
            for sign, right in zip(node.ops, node.comparators):
                if isinstance(sign, (ast.Is, ast.IsNot)):
                    self.assertIn(ast.unparse(right), ("None", "True", "False"), (name, node.lineno))

    def test_no_name_is_a_method_and_a_value(self):
        methods = [row.name for name, node in nodes(ast.ClassDef) for row in node.body if hasattr(row, "name")]
        for name, node in nodes(ast.Attribute):
            if isinstance(node.ctx, ast.Store):
                self.assertNotIn(node.attr, methods, (name, node.lineno))

    def test_a_power_has_a_written_exponent(self):
        for name, node in nodes(ast.BinOp):
            if isinstance(node.op, ast.Pow):
                self.assertIsInstance(node.right, ast.Constant, name)

    def test_imports_are_the_packages_own_by_full_name(self):
        for name, node in nodes(ast.ImportFrom):
            self.assertEqual(node.level, 0, name)
            self.assertRegex(node.module, r"^glasshelpers\.[a-z_]+$", name)
            self.assertNotIn("*", [alias.name for alias in node.names])

    def test_names_are_plain_and_none_is_pythons_own_but_those_allowed(self):
        for name, node in nodes(ast.Name):
            self.assertRegex(node.id, r"^[A-Za-z][A-Za-z0-9_]*$", name)
            self.assertTrue(node.id in BUILTINS or node.id not in PYTHONS_OWN, (name, node.id))
            if isinstance(node.ctx, ast.Store):
                self.assertNotIn(node.id, PYTHONS_OWN, name)
        for name, node in nodes(ast.arg):
            self.assertNotIn(node.arg, PYTHONS_OWN, name)

    def test_methods_are_the_packages_own_or_those_allowed(self):
        own = [node.name for name, node in nodes(ast.FunctionDef)]
        for name, node in nodes(ast.Call):
            if isinstance(node.func, ast.Attribute):
                self.assertIn(node.func.attr, own + OWN_METHODS, name)


if __name__ == "__main__":
    unittest.main()
