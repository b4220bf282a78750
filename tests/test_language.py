"""What can be counted of the rules for the code: files, sizes, signs, imports, builtins."""

import ast
import builtins
import pathlib
import unittest

PACKAGE = pathlib.Path(__file__).resolve().parent.parent / "bestsbook"
BUILTINS = set(
    "len range enumerate zip min max sum abs sorted reversed int str bool bytes list tuple dict set frozenset "
    "isinstance ord repr any all divmod map iter next super property staticmethod classmethod NotImplemented "
    "Exception ValueError TypeError KeyError IndexError LookupError ZeroDivisionError ArithmeticError "
    "OverflowError RuntimeError NotImplementedError AttributeError StopIteration".split()
)
LIBRARY = ("heapq", "math", "itertools")
NEVER_NAMES = set("register mro elements open input law version_info with_traceback add_note type vars dir id".split())
NEVER_WORDS = set("type typing enum Enum ABC namedtuple dataclass overload contextmanager".split())


def sources():
    return [(path, path.read_text("ascii")) for path in sorted(PACKAGE.rglob("*.py"))]


def nodes(kind):
    """All nodes of a kind, each with the place where it stands."""
    return [(f"{path.name}:{getattr(node, 'lineno', 0)}", node)
            for path, text in sources() for node in ast.walk(ast.parse(text)) if isinstance(node, kind)]


class Language(unittest.TestCase):

    def test_the_package_has_only_files_of_code(self):
        for path in PACKAGE.rglob("*"):
            if "__pycache__" not in path.parts and path.is_file():
                self.assertEqual(path.suffix, ".py", path)
        self.assertTrue((PACKAGE / "__init__.py").is_file())

    def test_sizes(self):
        for path, text in sources():
            lines = text.split("\n")
            self.assertLessEqual(len(lines), 399, path)
            self.assertLessEqual(max(map(len, lines)), 120, path)
        for place, node in nodes(ast.FunctionDef):
            self.assertLessEqual(node.end_lineno - node.lineno + 1, 40, place)

    def test_signs(self):
        for path, text in sources():
            self.assertEqual([sign for sign in text if sign != "\n" and not " " <= sign <= "~"], [], path)
        for place, node in nodes(ast.Constant):
            self.assertNotIsInstance(node.value, (float, complex), place)
            if isinstance(node.value, str):
                self.assertNotIn("%", node.value, place)

    def test_imports(self):
        self.assertEqual(nodes((ast.Import, ast.Global, ast.AsyncFunctionDef, ast.Div)), [])
        for place, node in nodes(ast.ImportFrom):
            self.assertEqual(node.level, 0, place)
            self.assertTrue(node.module.startswith("bestsbook.") or node.module in LIBRARY, place)
            self.assertNotIn("*", [name.name for name in node.names], place)

    def test_each_import_names_the_file_that_defines_it(self):
        defined = {}
        for path, text in sources():
            for node in ast.parse(text).body:
                if isinstance(node, (ast.FunctionDef, ast.ClassDef)):
                    defined.setdefault("bestsbook." + path.stem, []).append(node.name)
                elif isinstance(node, ast.Assign):
                    defined.setdefault("bestsbook." + path.stem, []).append(node.targets[0].id)
        for place, node in nodes(ast.ImportFrom):
            for name in node.names:
                self.assertIn(name.name, defined[node.module], place)

    def test_no_two_files_import_from_each_other(self):
        imported = {"bestsbook." + path.stem: {
            node.module for node in ast.walk(ast.parse(text)) if isinstance(node, ast.ImportFrom)}
            for path, text in sources()}
        for name in imported:
            behind, ahead = set(), set(imported[name])
            while ahead:
                behind |= ahead
                ahead = set().union(*[imported[other] for other in ahead]) - behind
            self.assertNotIn(name, behind)

    def test_names_are_bound_once_in_a_file(self):
        for path, text in sources():
            tree = ast.parse(text)
            bound = [name.name for node in tree.body if isinstance(node, ast.ImportFrom) for name in node.names]
            bound += [node.name for node in tree.body if isinstance(node, (ast.FunctionDef, ast.ClassDef))]
            bound += [node.targets[0].id for node in tree.body if isinstance(node, ast.Assign)]
            self.assertEqual(len(bound), len(set(bound)), path)
            for function in ast.walk(tree):
                if isinstance(function, ast.FunctionDef):
                    local = {node.arg for node in ast.walk(function) if isinstance(node, ast.arg)} | {
                        node.id for node in ast.walk(function)
                        if isinstance(node, ast.Name) and isinstance(node.ctx, ast.Store)}
                    self.assertEqual(local & set(bound), set(), (path, function.name))

    def test_methods_and_attributes_have_unlike_names(self):
        methods = {node.name for _, kind in nodes(ast.ClassDef) for node in kind.body
                   if isinstance(node, ast.FunctionDef)}
        attributes = {node.attr for _, node in nodes(ast.Attribute) if isinstance(node.ctx, ast.Store)}
        self.assertEqual(methods & attributes, set())
        plain = set().union(*[dir(kind) for kind in (int, str, bytes, list, tuple, dict, set)])
        self.assertEqual({name for name in methods | attributes if not name.startswith("__")} & plain, set())

    def test_words_that_are_not_used(self):
        for path, text in sources():
            names = {node.id for node in ast.walk(ast.parse(text)) if isinstance(node, ast.Name)}
            names |= {node.attr for node in ast.walk(ast.parse(text)) if isinstance(node, ast.Attribute)}
            names |= {node.arg for node in ast.walk(ast.parse(text)) if isinstance(node, (ast.arg, ast.keyword))}
            self.assertEqual(names & NEVER_NAMES, set(), path)
            texts = {node.value for node in ast.walk(ast.parse(text))
                     if isinstance(node, ast.Constant) and isinstance(node.value, str)}
            self.assertEqual((names | texts) & NEVER_WORDS, set(), path)

    def test_builtins(self):
        for place, node in nodes(ast.Name):
            if hasattr(builtins, node.id):
                self.assertIn(node.id, BUILTINS, place)
                self.assertIsInstance(node.ctx, ast.Load, place)
        for place, node in nodes(ast.arg):
            self.assertFalse(hasattr(builtins, node.arg), place)


if __name__ == "__main__":
    unittest.main()
