"""The form of the package's files, as far as it can be read off them: signs, sizes, imports, names, statements."""

import ast
import builtins
import re
import unittest
from pathlib import Path

FOLDER = Path(__file__).resolve().parent.parent / "fewestcoins"

NODES = """Module Expr Constant FunctionDef arguments arg Return Assign AugAssign If While For Break Continue Pass
Name Load Store Call Attribute Subscript Slice List Tuple Dict ListComp comprehension IfExp BinOp UnaryOp BoolOp
Compare Add Sub Mult FloorDiv Mod USub And Or Not Eq NotEq Lt LtE Gt GtE In NotIn Is IsNot ClassDef ImportFrom
alias""".split()

PYTHONS_OWN = """len range enumerate zip min max sum abs sorted reversed int str list tuple dict""".split()

METHODS = """append clear copy count extend get index insert items keys pop remove reverse setdefault update
values""".split()

OTHER_WORDS = """type typing enum Enum Generic Protocol ABC namedtuple NamedTuple register mro elements open
input""".split()


def sources():
    return [(path.name, path.read_bytes()) for path in sorted(FOLDER.glob("*.py"))]


def nodes():
    return [(name, node) for name, text in sources() for node in ast.walk(ast.parse(text))]


class Form(unittest.TestCase):

    def test_only_python_files_lie_in_the_package(self):
        names = [path.name for path in FOLDER.iterdir() if path.name != "__pycache__"]
        self.assertIn("__init__.py", names)
        self.assertIn("purse.py", names)
        for name in names:
            self.assertRegex(name, r"\A(__init__|[a-z][a-z0-9_]*)\.py\Z")

    def test_signs_and_sizes(self):
        for name, text in sources():
            self.assertRegex(text, rb"\A[ -~\n]*\Z", name)
            lines = text.decode().split("\n")
            self.assertLessEqual(len(lines), 400, name)
            self.assertLessEqual(max(len(line) for line in lines), 120, name)
            self.assertFalse(set(re.findall(r"\w+", text.decode())) & set(OTHER_WORDS), name)
        for name, node in nodes():
            if isinstance(node, ast.FunctionDef):
                self.assertLessEqual(node.end_lineno - node.lineno + 1, 40, (name, node.name))

    def test_only_the_small_part_of_the_language(self):
        for name, node in nodes():
            where = (name, getattr(node, "lineno", None))
            self.assertIn(node.__class__.__name__, NODES, where)
            if isinstance(node, ast.Constant):
                self.assertIn(node.value.__class__, (int, str, bool, None.__class__), where)
            if isinstance(node, ast.Assign):
                self.assertEqual(len(node.targets), 1, where)
            if isinstance(node, (ast.While, ast.For)):
                self.assertEqual(node.orelse, [], where)

    def test_imports_are_of_the_package_alone(self):
        for name, node in nodes():
            if isinstance(node, ast.ImportFrom):
                self.assertEqual(node.level, 0, name)
                self.assertRegex(node.module, r"\Afewestcoins\.[a-z]+\Z", name)
                self.assertNotIn("*", [alias.name for alias in node.names], name)

    def test_names(self):
        for name, node in nodes():
            where = (name, getattr(node, "lineno", None))
            if isinstance(node, ast.Name) and hasattr(builtins, node.id):
                self.assertIn(node.id, PYTHONS_OWN, where)
                self.assertIsInstance(node.ctx, ast.Load, where)
            if isinstance(node, ast.Name):
                self.assertFalse(node.id.startswith("_"), where)
            if isinstance(node, (ast.FunctionDef, ast.ClassDef)) and node.name != "__init__":
                self.assertFalse(node.name.startswith("_") or hasattr(builtins, node.name), where)
            if isinstance(node, ast.arg):
                self.assertFalse(node.arg.startswith("_") or hasattr(builtins, node.arg), where)
            if isinstance(node, ast.Call) and isinstance(node.func, ast.Attribute):
                self.assertIn(node.func.attr, METHODS, where)


if __name__ == "__main__":
    unittest.main()
