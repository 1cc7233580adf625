"""The form of the package: what a test can see of the rules L1 to L28."""

import ast
import builtins
import pathlib
import unittest

PACKAGE = pathlib.Path(__file__).resolve().parent.parent / "sentonward"
FILES = sorted(PACKAGE.glob("*.py"))
LIBRARY = {
    "heapq": ("heapify", "heappop", "heappush", "heappushpop", "heapreplace"),
    "math": ("comb", "factorial", "gcd", "isqrt", "lcm", "perm"),
    "itertools": ("combinations", "permutations", "product"),
}
DECORATORS = ("property", "staticmethod", "classmethod")
BUILTINS = (
    "len range enumerate zip min max sum abs sorted reversed int str bool bytes list tuple dict set frozenset "
    "isinstance ord repr any all divmod iter next map super property staticmethod classmethod NotImplemented "
    "Exception ValueError TypeError KeyError IndexError LookupError ZeroDivisionError ArithmeticError "
    "OverflowError RuntimeError NotImplementedError AttributeError StopIteration"
).split()
FUNCTIONS = (ast.FunctionDef, ast.AsyncFunctionDef)
BARRED = (ast.AsyncFunctionDef, ast.AsyncFor, ast.AsyncWith, ast.Await, ast.Global, ast.Import, ast.Div)


def nodes():
    """Return a list of the files' names with each part of their code."""
    return [(path.name, node) for path in FILES for node in ast.walk(ast.parse(path.read_text("ascii")))]


class FormTest(unittest.TestCase):

    def test_the_folder_holds_nothing_but_files_of_code(self):
        others = [path.name for path in PACKAGE.iterdir() if path.suffix != ".py" and path.name != "__pycache__"]
        self.assertEqual(others, [])
        self.assertIn(PACKAGE / "__init__.py", FILES)
        self.assertLessEqual(len(FILES), 100)

    def test_characters_and_sizes(self):
        for path in FILES:
            text = path.read_text("utf-8")
            with self.subTest(file=path.name):
                self.assertEqual([sign for sign in text if sign != "\n" and not " " <= sign <= "~"], [])
                self.assertLessEqual(len(text.splitlines()), 399)
                self.assertLessEqual(max(map(len, text.splitlines())), 120)

    def test_functions_have_at_most_forty_lines(self):
        long = [
            (name, node.name) for name, node in nodes()
            if isinstance(node, FUNCTIONS) and node.end_lineno - node.lineno >= 40
        ]
        self.assertEqual(long, [])

    def test_imports(self):
        for name, node in nodes():
            if isinstance(node, ast.ImportFrom):
                with self.subTest(file=name, module=node.module):
                    self.assertEqual(node.level, 0)
                    names = [each.name for each in node.names]
                    if node.module in LIBRARY:
                        self.assertEqual([each for each in names if each not in LIBRARY[node.module]], [])
                    else:
                        self.assert_defined(node.module, names)
                    self.assertEqual([each.asname for each in node.names], [None] * len(names))

    def assert_defined(self, module, names):
        self.assertTrue(module.startswith("sentonward."))
        path = PACKAGE / (module.removeprefix("sentonward.") + ".py")
        defined = []
        for node in ast.parse(path.read_text("ascii")).body:
            if isinstance(node, FUNCTIONS + (ast.ClassDef,)):
                defined.append(node.name)
            elif isinstance(node, ast.Assign):
                defined.extend(target.id for target in node.targets)
        self.assertEqual([name for name in names if name not in defined], [])

    def test_decorators_and_statements(self):
        for name, node in nodes():
            with self.subTest(file=name, line=getattr(node, "lineno", 0)):
                self.assertNotIsInstance(node, BARRED)
                if isinstance(node, FUNCTIONS + (ast.ClassDef,)):
                    told = [ast.unparse(each) for each in node.decorator_list]
                    self.assertEqual([each for each in told if each not in DECORATORS and ".setter" not in each], [])
                if isinstance(node, ast.Constant):
                    self.assertNotIsInstance(node.value, (float, complex))

    def test_builtins(self):
        barred = [each for each in dir(builtins) if each not in BUILTINS and each not in ("None", "True", "False")]
        for name, node in nodes():
            if isinstance(node, ast.Name):
                with self.subTest(file=name, line=node.lineno):
                    self.assertNotIn(node.id, barred)


if __name__ == "__main__":
    unittest.main()
