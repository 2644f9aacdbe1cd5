"""The package keeps to its small part of Python: what can be seen of that in its files."""

import ast
import builtins
import os
import re
import unittest

PACKAGE = os.path.join(os.path.dirname(os.path.dirname(os.path.abspath(__file__))), "keyspipes")

BUILTINS = set(
    "len range enumerate zip min max sum abs sorted reversed int str bool list tuple dict set frozenset isinstance "
    "ord repr any all divmod Exception ValueError TypeError KeyError IndexError LookupError ZeroDivisionError "
    "ArithmeticError OverflowError RuntimeError NotImplementedError AttributeError StopIteration".split())

METHODS = set(
    "append clear copy count endswith extend find get index insert isalnum isalpha isdigit islower isspace isupper "
    "items join keys ljust lower lstrip partition pop remove replace reverse rfind rjust rpartition rsplit rstrip "
    "setdefault split splitlines startswith strip update upper values zfill bit_length".split())

NODES = set(
    "Module Expr FunctionDef ClassDef arguments arg Return Assign AugAssign For While If Raise Try ExceptHandler "
    "Break Continue Pass ImportFrom alias Name Load Store Constant List Tuple Dict Set BinOp UnaryOp BoolOp Compare "
    "IfExp Call keyword Attribute Subscript Slice ListComp comprehension Lambda JoinedStr FormattedValue "
    "Add Sub Mult FloorDiv Mod Pow LShift RShift BitOr BitXor BitAnd Invert USub UAdd Not And Or "
    "Eq NotEq Lt LtE Gt GtE Is IsNot In NotIn".split())

UNUSED_WORDS = re.compile(
    r"\b(type|typing|typing_extensions|enum|Enum|IntEnum|StrEnum|Flag|IntFlag|Generic|Protocol|ABC|ABCMeta|namedtuple|"
    r"NamedTuple|TypedDict|TYPE_CHECKING|abstractmethod)\b|dataclass|overload|contextmanager")

UNUSED_NAMES = set("register mro elements open input version_info with_traceback add_note".split())


def package_files():
    names = [name for name in sorted(os.listdir(PACKAGE)) if name != "__pycache__"]
    return [os.path.join(PACKAGE, name) for name in names]


def text_of(path):
    with open(path, encoding="utf-8", newline="") as file:
        return file.read()


def nodes_of(path):
    return list(ast.walk(ast.parse(text_of(path))))


def bound_names(node):
    if isinstance(node, (ast.FunctionDef, ast.ClassDef)):
        return [node.name]
    if isinstance(node, ast.arg):
        return [node.arg]
    if isinstance(node, ast.Name) and isinstance(node.ctx, ast.Store):
        return [node.id]
    if isinstance(node, ast.Attribute) and isinstance(node.ctx, ast.Store):
        return [node.attr]
    return []


class Form(unittest.TestCase):
    def each_node(self, *kinds):
        return [(path, node) for path in package_files() for node in nodes_of(path) if isinstance(node, kinds)]

    def test_files(self):
        self.assertIn(os.path.join(PACKAGE, "organ.py"), package_files())
        for path in package_files():
            self.assertRegex(os.path.basename(path), r"^(__init__|[a-z][a-z0-9_]*)\.py$")

    def test_signs_and_sizes(self):
        for path in package_files():
            text = text_of(path)
            self.assertRegex(text, r"^[ -~\n]*\Z")
            self.assertLessEqual(text.count("\n"), 400)
            self.assertLessEqual(max(len(line) for line in text.split("\n")), 120)
            self.assertIsNone(UNUSED_WORDS.search(text))

    def test_functions_of_at_most_40_lines(self):
        for path, node in self.each_node(ast.FunctionDef):
            self.assertLessEqual(node.end_lineno - node.lineno + 1, 40, node.name)
            self.assertEqual(node.decorator_list, [])
            self.assertIsNone(node.args.vararg)
            self.assertIsNone(node.args.kwarg)
            self.assertEqual(node.args.kwonlyargs, [])

    def test_only_what_the_rules_list(self):
        for path, node in self.each_node(ast.AST):
            self.assertIn(node.__class__.__name__, NODES, f"{path}:{getattr(node, 'lineno', '')}")

    def test_imports_of_the_own_package_alone(self):
        for path, node in self.each_node(ast.ImportFrom):
            self.assertEqual(node.level, 0)
            self.assertRegex(node.module, r"^keyspipes\.")

    def test_one_plain_target_in_an_assignment(self):
        for path, node in self.each_node(ast.Assign):
            self.assertEqual(len(node.targets), 1)
            self.assertNotIsInstance(node.targets[0], (ast.Tuple, ast.List))

    def test_names(self):
        for path, node in self.each_node(ast.AST):
            for name in bound_names(node):
                if name != "__init__":
                    self.assertRegex(name, r"^[A-Za-z][A-Za-z0-9_]*$")
                    self.assertFalse(hasattr(builtins, name), name)
                    self.assertNotIn(name, UNUSED_NAMES)

    def test_builtin_names_that_are_listed(self):
        for path, node in self.each_node(ast.Name):
            if hasattr(builtins, node.id):
                self.assertIn(node.id, BUILTINS)

    def test_methods_that_are_listed(self):
        own = {node.name for path, node in self.each_node(ast.FunctionDef)}
        for path, node in self.each_node(ast.Call):
            if isinstance(node.func, ast.Attribute):
                self.assertIn(node.func.attr, METHODS | own)

    def test_no_float_and_no_bytes(self):
        for path, node in self.each_node(ast.Constant):
            self.assertIsInstance(node.value, (int, str, type(None)))

    def test_no_power_but_with_a_written_exponent(self):
        for path, node in self.each_node(ast.BinOp):
            if isinstance(node.op, ast.Pow):
                self.assertIsInstance(node.right, ast.Constant)
                self.assertIn(node.right.value, range(65))

    def test_comprehensions_with_one_for_and_at_most_one_if(self):
        for path, node in self.each_node(ast.ListComp):
            self.assertEqual(len(node.generators), 1)
            self.assertLessEqual(len(node.generators[0].ifs), 1)


if __name__ == "__main__":
    unittest.main()
