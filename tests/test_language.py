"""What can be counted of the rules for the code: files, sizes, signs, imports, builtins."""

import ast
import builtins
import pathlib
import unittest

PACKAGE = pathlib.Path(__file__).resolve().parent.parent / "bestsbook"
BUILTINS = set(
    "len range enumerate zip min max sum abs sorted reversed int str bool bytes list tuple dict set frozenset "
    "isinstance ord repr any all divmod map iter next super property staticmethod classmethod NotImplemented "
    "Exception ValueError TypeError KeyError IndexError LookupError ZeroDivisionError ArithmeticError "
    "OverflowError RuntimeError NotImplementedError AttributeError StopIteration".split()
)
LIBRARY = ("heapq", "math", "itertools")


def sources():
    return [(path, path.read_text("ascii")) for path in sorted(PACKAGE.rglob("*.py"))]


def nodes(kind):
    """All nodes of a kind, each with the place where it stands."""
    return [(f"{path.name}:{getattr(node, 'lineno', 0)}", node)
            for path, text in sources() for node in ast.walk(ast.parse(text)) if isinstance(node, kind)]


class Language(unittest.TestCase):

    def test_the_package_has_only_files_of_code(self):
        for path in PACKAGE.rglob("*"):
            if "__pycache__" not in path.parts and path.is_file():
                self.assertEqual(path.suffix, ".py", path)
        self.assertTrue((PACKAGE / "__init__.py").is_file())

    def test_sizes(self):
        for path, text in sources():
            lines = text.split("\n")
            self.assertLessEqual(len(lines), 399, path)
            self.assertLessEqual(max(map(len, lines)), 120, path)
        for place, node in nodes(ast.FunctionDef):
            self.assertLessEqual(node.end_lineno - node.lineno + 1, 40, place)

    def test_signs(self):
        for path, text in sources():
            self.assertEqual([sign for sign in text if sign != "\n" and not " " <= sign <= "~"], [], path)
        for place, node in nodes(ast.Constant):
            self.assertNotIsInstance(node.value, (float, complex), place)
            if isinstance(node.value, str):
                self.assertNotIn("%", node.value, place)

    def test_imports(self):
        self.assertEqual(nodes((ast.Import, ast.Global, ast.AsyncFunctionDef, ast.Div)), [])
        for place, node in nodes(ast.ImportFrom):
            self.assertEqual(node.level, 0, place)
            self.assertTrue(node.module.startswith("bestsbook.") or node.module in LIBRARY, place)
            self.assertNotIn("*", [name.name for name in node.names], place)

    def test_builtins(self):
        for place, node in nodes(ast.Name):
            if hasattr(builtins, node.id):
                self.assertIn(node.id, BUILTINS, place)
                self.assertIsInstance(node.ctx, ast.Load, place)
        for place, node in nodes(ast.arg):
            self.assertFalse(hasattr(builtins, node.arg), place)


if __name__ == "__main__":
    unittest.main()
