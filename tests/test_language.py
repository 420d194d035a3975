"""The package keeps to those rules of LANGUAGE.md that can be told from its text at once."""

import ast
import pathlib
import unittest

PACKAGE = pathlib.Path(__file__).resolve().parent.parent / "freehour"
BUILTINS = set(
    "len range enumerate zip min max sum abs sorted reversed int str bool bytes list tuple dict set isinstance ord repr"
    " any all divmod ValueError".split()
)
METHODS = set(
    "append clear copy count endswith extend find get index insert isalnum isalpha isdigit islower isspace isupper items"
    " join keys ljust lower lstrip partition pop remove replace reverse rfind rjust rpartition rsplit rstrip setdefault"
    " split splitlines startswith strip update upper values zfill bit_length removeprefix removesuffix".split()
)
LIBRARY = {"math": {"gcd", "lcm", "isqrt"}, "heapq": {"heappush", "heappop"}}
STATEMENTS = (
    ast.Assign, ast.If, ast.While, ast.For, ast.Return, ast.Break, ast.Continue, ast.Pass, ast.Raise, ast.Delete, ast.Expr,
    ast.FunctionDef, ast.ClassDef, ast.ImportFrom,
)
AT_MODULE_LEVEL = (ast.Expr, ast.ImportFrom, ast.FunctionDef, ast.ClassDef, ast.Assign)


def defined_names(trees):
    """All functions, methods and classes of the package."""
    nodes = [node for tree in trees for node in ast.walk(tree)]
    return {node.name for node in nodes if isinstance(node, (ast.FunctionDef, ast.ClassDef))}


def bound_names(tree):
    """All names that the file binds, but those of imports."""
    names = {node.id for node in ast.walk(tree) if isinstance(node, ast.Name) and isinstance(node.ctx, ast.Store)}
    names |= {node.arg for node in ast.walk(tree) if isinstance(node, ast.arg)}
    return names | defined_names([tree])


class TestLanguage(unittest.TestCase):
    def setUp(self):
        self.texts = {path.name: path.read_text("ascii") for path in sorted(PACKAGE.glob("*.py"))}
        self.trees = {name: ast.parse(text) for name, text in self.texts.items()}

    def nodes(self, kind):
        return [(name, node) for name, tree in self.trees.items() for node in ast.walk(tree) if isinstance(node, kind)]

    def test_files(self):
        others = [path.name for path in PACKAGE.iterdir() if path.suffix != ".py" and path.name != "__pycache__"]
        self.assertEqual(others, [])
        self.assertIn("__init__.py", self.texts)

    def test_characters_and_sizes(self):
        for name, text in self.texts.items():
            self.assertTrue(all(sign == "\n" or " " <= sign <= "~" for sign in text), name)
            lines = text.split("\n")
            self.assertLessEqual(len(lines), 400, name)
            self.assertLessEqual(max(map(len, lines)), 120, name)
        for name, node in self.nodes(ast.FunctionDef):
            self.assertLessEqual(node.end_lineno - node.lineno + 1, 40, (name, node.name))

    def test_imports(self):
        for name, node in self.nodes((ast.Import, ast.ImportFrom)):
            self.assertIsInstance(node, ast.ImportFrom, name)
            taken = {alias.name for alias in node.names}
            if node.module in LIBRARY:
                self.assertLessEqual(taken, LIBRARY[node.module])
                continue
            package, file = node.module.split(".")
            self.assertEqual(package, "freehour")
            # Each name is taken from the very file that defines it, and is used.
            self.assertLessEqual(taken, bound_names(self.trees[file + ".py"]), (name, node.module))
            used = {part.id for part in ast.walk(self.trees[name]) if isinstance(part, ast.Name)}
            self.assertLessEqual(taken, used, (name, node.module))

    def test_statements(self):
        for name, node in self.nodes(ast.stmt):
            self.assertIsInstance(node, STATEMENTS, (name, node.lineno))
        for name, tree in self.trees.items():
            for node in tree.body:
                self.assertIsInstance(node, AT_MODULE_LEVEL, (name, node.lineno))

    def test_expressions(self):
        unwanted = (
            ast.Div, ast.Await, ast.Lambda, ast.GeneratorExp, ast.Yield, ast.YieldFrom, ast.NamedExpr, ast.JoinedStr,
            ast.Global, ast.Nonlocal, ast.AnnAssign, ast.AugAssign, ast.SetComp,
        )
        self.assertEqual([(name, node.lineno) for name, node in self.nodes(unwanted)], [])
        for name, node in self.nodes(ast.Constant):
            self.assertNotIsInstance(node.value, (float, complex), name)
            self.assertFalse(isinstance(node.value, str) and "\x25" in node.value, (name, node.lineno))
        for name, node in self.nodes(ast.FunctionDef):
            self.assertEqual(node.decorator_list, [], (name, node.name))

    def test_names(self):
        every_builtin = set(dir(__import__("builtins")))
        for name, tree in self.trees.items():
            bound = bound_names(tree)
            imported = {alias.name for node in ast.walk(tree) if isinstance(node, ast.ImportFrom) for alias in node.names}
            functions = {node.name for node in ast.walk(tree) if isinstance(node, ast.FunctionDef)}
            self.assertEqual((bound - functions) & every_builtin, set(), name)
            self.assertEqual(bound & imported, set(), name)
            read = {node.id for node in ast.walk(tree) if isinstance(node, ast.Name) and isinstance(node.ctx, ast.Load)}
            self.assertLessEqual(read - bound - imported, BUILTINS, name)
            self.assertNotIn("_", read)

    def test_methods(self):
        known = METHODS | defined_names(self.trees.values())
        for name, node in self.nodes(ast.Call):
            if isinstance(node.func, ast.Attribute):
                self.assertIn(node.func.attr, known, (name, node.lineno))


if __name__ == "__main__":
    unittest.main()
