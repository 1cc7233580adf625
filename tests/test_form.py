"""The form of the package: what a test can see of the rules L1 to L28."""

import ast
import builtins
import io
import pathlib
import re
import tokenize
import unittest

PACKAGE = pathlib.Path(__file__).resolve().parent.parent / "sentonward"
FILES = sorted(PACKAGE.glob("*.py"))
TREES = {path.stem: ast.parse(path.read_text("ascii")) for path in FILES}
LIBRARY = {
    "heapq": ("heapify", "heappop", "heappush", "heappushpop", "heapreplace"),
    "math": ("comb", "factorial", "gcd", "isqrt", "lcm", "perm"),
    "itertools": ("combinations", "permutations", "product"),
}
DECORATORS = ("property", "staticmethod", "classmethod")
BUILTINS = (
    "len range enumerate zip min max sum abs sorted reversed int str bool bytes list tuple dict set frozenset "
    "isinstance ord repr any all divmod iter next map super property staticmethod classmethod NotImplemented "
    "Exception ValueError TypeError KeyError IndexError LookupError ZeroDivisionError ArithmeticError "
    "OverflowError RuntimeError NotImplementedError AttributeError StopIteration"
).split()
METHODS = (
    "append clear copy count endswith extend find get index insert isalnum isalpha isdigit islower isspace isupper "
    "items join keys ljust lower lstrip partition pop remove replace reverse rfind rjust rpartition rsplit rstrip "
    "setdefault split splitlines startswith strip update upper values zfill bit_length title capitalize swapcase "
    "casefold center expandtabs removeprefix removesuffix rindex isascii isdecimal isnumeric istitle isidentifier "
    "isprintable translate add discard"
).split()
NO_ATTRIBUTES = (
    "items keys values pop update append clear extend insert remove reverse setdefault sort args encode decode hex "
    "fromhex format format_map mro register elements open input law"
).split()
MODIFYING = "append clear extend insert pop remove reverse setdefault update add discard sort".split()
DOUBLED = (
    "init eq repr str len enter exit call iter lt le gt ge ne add sub mul floordiv mod pow and or xor lshift rshift "
    "radd rsub rmul rfloordiv rmod rand ror rxor rlshift rrshift iadd isub imul ifloordiv imod ipow iand ior ixor "
    "ilshift irshift neg pos invert abs bool contains getitem setitem"
).split()
IN_PLACE = ("__iadd__", "__ior__", "__setitem__", "__init__", "__call__", "__iter__", "__enter__", "__exit__")
WORDS = (
    "type typing typing_extensions enum Enum IntEnum StrEnum Flag IntFlag Generic Protocol ABC ABCMeta namedtuple "
    "NamedTuple TypedDict TYPE_CHECKING abstractmethod register mro elements open input law version_info "
    "with_traceback add_note chr eval exec globals locals vars getattr setattr hasattr async global"
).split()
FUNCTIONS = (ast.FunctionDef, ast.AsyncFunctionDef)
BARRED = (
    ast.AsyncFunctionDef, ast.AsyncFor, ast.AsyncWith, ast.Await, ast.Global, ast.Import, ast.Div, ast.GeneratorExp,
    ast.Set, ast.AnnAssign,
)
# What stands in an __exit__: it assigns attributes, notes and decides, and computes nothing.
EXITS = (
    ast.FunctionDef, ast.arguments, ast.arg, ast.If, ast.BoolOp, ast.And, ast.Or, ast.UnaryOp, ast.Not, ast.Compare,
    ast.Is, ast.IsNot, ast.Constant, ast.Name, ast.Attribute, ast.Assign, ast.Expr, ast.Call, ast.Tuple, ast.Load,
    ast.Store,
)


def nodes(kinds=ast.AST):
    """Return a list of the files' names with each part of their code that is of some kinds."""
    return [(name, node) for name, tree in TREES.items() for node in ast.walk(tree) if isinstance(node, kinds)]


def named(node):
    """Return the name that is called by a call, of a function or of a method."""
    return node.func.attr if isinstance(node.func, ast.Attribute) else getattr(node.func, "id", "")


def asks_for_none(test):
    """Return whether a test asks names and attributes for None, and nothing else."""
    if isinstance(test, ast.BoolOp):
        return all(asks_for_none(each) for each in test.values)
    if isinstance(test, ast.UnaryOp):
        return isinstance(test.op, ast.Not) and asks_for_none(test.operand)
    if not isinstance(test, ast.Compare) or not isinstance(test.left, (ast.Name, ast.Attribute)):
        return False
    is_asked = [isinstance(each, (ast.Is, ast.IsNot)) for each in test.ops] == [True]
    return is_asked and isinstance(test.comparators[0], ast.Constant) and test.comparators[0].value is None


def bare_code(path):
    """Return the code of a file without comments and docstrings."""
    told, last = [], tokenize.NEWLINE
    for token in tokenize.generate_tokens(io.StringIO(path.read_text("ascii")).readline):
        is_docstring = token.type == tokenize.STRING and last in (tokenize.NEWLINE, tokenize.INDENT)
        if token.type != tokenize.COMMENT and not is_docstring:
            told.append(token.string)
        if token.type not in (tokenize.COMMENT, tokenize.NL, tokenize.DEDENT):
            last = token.type
    return " ".join(told)


class FormTest(unittest.TestCase):

    def test_the_folder_holds_nothing_but_files_of_code(self):
        others = [path.name for path in PACKAGE.iterdir() if path.suffix != ".py" and path.name != "__pycache__"]
        self.assertEqual(others, [])
        self.assertIn(PACKAGE / "__init__.py", FILES)
        self.assertLessEqual(len(FILES), 100)

    def test_characters_and_sizes(self):
        for path in FILES:
            text = path.read_text("utf-8")
            with self.subTest(file=path.name):
                self.assertEqual([sign for sign in text if sign != "\n" and not " " <= sign <= "~"], [])
                self.assertLessEqual(len(text.splitlines()), 399)
                self.assertLessEqual(max(map(len, text.splitlines())), 120)

    def test_functions_have_at_most_forty_lines(self):
        long = [node.name for _, node in nodes(FUNCTIONS) if node.end_lineno - node.lineno >= 40]
        self.assertEqual(long, [])

    def test_words_that_do_not_occur(self):
        for path in FILES:
            code = bare_code(path)
            with self.subTest(file=path.name):
                self.assertEqual([word for word in WORDS if re.search(rf"\b{word}\b", code)], [])
                self.assertIsNone(re.search(r"dataclass|overload|contextmanager|_wall|metaclass|\\[^nt\\'\"]", code))

    def test_strings(self):
        for name, node in nodes(ast.Constant):
            if isinstance(node.value, str):
                with self.subTest(file=name, line=node.lineno):
                    self.assertNotIn("%", node.value)
                    self.assertFalse(node.value.startswith("__") or node.value.endswith(("._", ".__")))
            self.assertNotIsInstance(node.value, (float, complex))


class NamesTest(unittest.TestCase):

    def test_imports(self):
        for name, node in nodes(ast.ImportFrom):
            with self.subTest(file=name, module=node.module):
                self.assertEqual(node.level, 0)
                names = [each.name for each in node.names]
                if node.module in LIBRARY:
                    self.assertEqual([each for each in names if each not in LIBRARY[node.module]], [])
                else:
                    self.assert_defined(node.module, names)
                self.assertEqual([each.asname for each in node.names], [None] * len(names))

    def assert_defined(self, module, names):
        self.assertTrue(module.startswith("sentonward."))
        defined = []
        for node in TREES[module.removeprefix("sentonward.")].body:
            if isinstance(node, FUNCTIONS + (ast.ClassDef,)):
                defined.append(node.name)
            elif isinstance(node, ast.Assign):
                defined.extend(target.id for target in node.targets)
        self.assertEqual([name for name in names if name not in defined], [])

    def test_no_two_files_import_from_each_other(self):
        needs = {name: {node.module.removeprefix("sentonward.") for where, node in nodes(ast.ImportFrom)
                        if where == name} & set(TREES) for name in TREES}
        while needs:
            free = [name for name in needs if not needs[name]]
            self.assertTrue(free, needs)
            needs = {name: needs[name] - set(free) for name in needs if name not in free}

    def test_imports_are_used(self):
        for name, node in nodes(ast.ImportFrom):
            used = [each.id for each in ast.walk(TREES[name]) if isinstance(each, ast.Name)]
            self.assertEqual([each.name for each in node.names if each.name not in used], [], name)

    def test_builtins(self):
        barred = [each for each in dir(builtins) if each not in BUILTINS]
        for name, node in nodes((ast.Name, ast.arg) + FUNCTIONS):
            told = getattr(node, "id", getattr(node, "arg", getattr(node, "name", "")))
            with self.subTest(file=name, line=node.lineno):
                self.assertNotIn(told, barred)
                if not isinstance(getattr(node, "ctx", None), ast.Load):
                    self.assertNotIn(told, dir(builtins))
                self.assertTrue(not told.startswith("__") or told.strip("_") in DOUBLED)

    def test_locals_have_no_name_of_an_import_or_a_class(self):
        for name, tree in TREES.items():
            taken = [each.name for node in ast.walk(tree) if isinstance(node, ast.ImportFrom) for each in node.names]
            taken += [node.name for node in ast.walk(tree) if isinstance(node, ast.ClassDef)]
            stored = [node.id for node in ast.walk(tree) if isinstance(node, ast.Name) and isinstance(node.ctx, ast.Store)]
            stored += [node.arg for node in ast.walk(tree) if isinstance(node, ast.arg)]
            self.assertEqual([each for each in stored if each in taken], [], name)

    def test_attributes_and_methods(self):
        methods = {node.name for _, each in nodes(ast.ClassDef) for node in each.body if isinstance(node, FUNCTIONS)}
        told = {True: set(), False: set()}
        for _, node in nodes(ast.Attribute):
            told[isinstance(node.ctx, ast.Store)].add(node.attr)
        called = {named(node) for _, node in nodes(ast.Call) if isinstance(node.func, ast.Attribute)}
        self.assertEqual(told[True] & methods, set())
        self.assertEqual(told[True] & set(NO_ATTRIBUTES), set())
        self.assertEqual(told[False] - told[True] - methods - set(METHODS), {"setter"})
        self.assertEqual(called - methods - set(METHODS), set())

    def test_properties_have_names_of_their_own(self):
        for _, each in nodes(ast.ClassDef):
            names = [node.name for node in each.body if isinstance(node, FUNCTIONS) and not any(
                isinstance(told, ast.Attribute) for told in node.decorator_list)]
            self.assertEqual(len(names), len(set(names)))
            for node in each.body:
                if isinstance(node, FUNCTIONS) and node.decorator_list:
                    self.assertNotIn(node.name, METHODS)


class StatementsTest(unittest.TestCase):

    def test_decorators_and_statements(self):
        for name, node in nodes():
            with self.subTest(file=name, line=getattr(node, "lineno", 0)):
                self.assertNotIsInstance(node, BARRED)
                if isinstance(node, FUNCTIONS + (ast.ClassDef,)):
                    told = [ast.unparse(each) for each in node.decorator_list]
                    self.assertEqual([each for each in told if each not in DECORATORS and ".setter" not in each], [])

    def test_module_level(self):
        for name, tree in TREES.items():
            for node in tree.body:
                with self.subTest(file=name, line=node.lineno):
                    if isinstance(node, ast.Expr):
                        self.assertIsInstance(node.value, ast.Constant)
                    else:
                        self.assertIsInstance(node, (ast.ImportFrom, ast.Assign, ast.ClassDef) + FUNCTIONS)

    def test_errors_that_are_caught(self):
        own = [node.name for node in TREES["errors"].body if isinstance(node, ast.ClassDef)]
        for name, node in nodes(ast.Try):
            with self.subTest(file=name, line=node.lineno):
                self.assertEqual((node.finalbody, node.orelse, len(node.body)), ([], [], 1))
                self.assertEqual([each.type.id for each in node.handlers if each.type.id not in own], [])

    def test_raised_on_the_spot(self):
        classes = [node.name for _, node in nodes(ast.ClassDef)] + ["TypeError"]
        for name, node in nodes(ast.Raise):
            with self.subTest(file=name, line=node.lineno):
                self.assertIsInstance(node.exc, ast.Call)
                self.assertIn(node.exc.func.id, classes)
                self.assertTrue(node.cause is None or isinstance(node.cause, ast.Name))

    def test_blocks(self):
        for name, node in nodes(ast.With):
            with self.subTest(file=name, line=node.lineno):
                self.assertIsInstance(node.items[0].context_expr, (ast.Name, ast.Call))
        for name, node in nodes(FUNCTIONS):
            if node.name == "__exit__":
                for each in ast.walk(node):
                    with self.subTest(file=name, line=getattr(each, "lineno", 0)):
                        self.assertIsInstance(each, EXITS)
                        if isinstance(each, ast.Call):
                            self.assertEqual(named(each), "append")
                        if isinstance(each, ast.If):
                            self.assertTrue(asks_for_none(each.test), ast.unparse(each.test))

    def test_tests_in_exits(self):
        told = {text: asks_for_none(ast.parse(text, mode="eval").body) for text in (
            "kind is None", "kind is not None", "kind is None and self._kept is not None", "not (kind is None or a.b is None)",
            "self._kept", "kind is None and self._kept", "not self._kept", "self._kept is True", "self._kept == 1", "kind",
            "kind is self._kept", "a is None is None", "held() is None",
        )}
        self.assertEqual(list(told.values()), [True] * 4 + [False] * 9)

    def test_generators(self):
        made = [(name, node) for name, node in nodes(FUNCTIONS)
                if any(isinstance(each, (ast.Yield, ast.YieldFrom)) for each in ast.walk(node))]
        names = [node.name for _, node in made]
        self.assertEqual(sorted(node.name for _, node in nodes(FUNCTIONS) if node.name in names), sorted(set(names)))
        for name, node in made:
            self.assertFalse(any(isinstance(each, (ast.Try, ast.With)) for each in ast.walk(node)), (name, node.name))
        iterated = [node.iter for _, node in nodes(ast.For)]
        for name, node in nodes(ast.Call):
            self.assertTrue(named(node) not in names or node in iterated, (name, node.lineno))

    def test_is(self):
        for name, node in nodes(ast.Compare):
            if isinstance(node.ops[0], (ast.Is, ast.IsNot)):
                with self.subTest(file=name, line=node.lineno):
                    self.assertIn(getattr(node.comparators[0], "value", "?"), (None, True, False))

    def test_sets_are_only_sorted_or_counted(self):
        for name, tree in TREES.items():
            for node in ast.walk(tree):
                for each in ast.iter_child_nodes(node):
                    is_set = isinstance(each, ast.SetComp) or isinstance(each, ast.Call) and named(each) == "set"
                    with self.subTest(file=name, line=getattr(node, "lineno", 0)):
                        self.assertTrue(not is_set or isinstance(node, ast.Call) and named(node) in ("sorted", "len"))

    def test_sorting(self):
        for name, node in nodes(ast.Call):
            with self.subTest(file=name, line=node.lineno):
                self.assertNotIn(named(node), ("min", "max", "sort", "reversed", "map", "iter", "next"))
                if named(node) == "sorted":
                    self.assertEqual(named(node.args[0]), "set")
                if named(node) in ("any", "all", "sum"):
                    self.assertIsInstance(node.args[0], ast.ListComp)

    def test_loops_do_not_change_what_they_iterate_over(self):
        for name, node in nodes(ast.For):
            over = {each.id for each in ast.walk(node.iter) if isinstance(each, ast.Name)}
            over -= {each.func.id for each in ast.walk(node.iter)
                     if isinstance(each, ast.Call) and isinstance(each.func, ast.Name)}
            for row in node.body:
                for each in ast.walk(row):
                    with self.subTest(file=name, line=node.lineno):
                        if isinstance(each, ast.Call) and named(each) in MODIFYING:
                            self.assertNotIn(getattr(each.func.value, "id", ""), over)
                        if isinstance(each, ast.Subscript) and not isinstance(each.ctx, ast.Load):
                            self.assertNotIn(getattr(each.value, "id", ""), over - {"self"})

    def test_views_are_iterated_on_the_spot(self):
        for name, tree in TREES.items():
            for node in ast.walk(tree):
                for field, each in ast.iter_fields(node):
                    for part in each if isinstance(each, list) else [each]:
                        if isinstance(part, ast.Call) and named(part) in ("zip", "enumerate", "range", "items"):
                            is_over = field == "iter"
                            is_passed = isinstance(node, ast.Call) and named(node) in ("list", "tuple", "dict", "sorted")
                            self.assertTrue(is_over or is_passed, (name, part.lineno))


class OperatorsTest(unittest.TestCase):
    """Operators, properties, == and len change nothing, and neither does what they call."""

    def quiet(self):
        """Return (file, function) for all that an operator, a property, == or len calls, by name."""
        known = {}
        for name, node in nodes(FUNCTIONS):
            known.setdefault(node.name, []).append((name, node))
        for name, node in nodes(ast.ClassDef):
            known[node.name] = [(name, each) for each in node.body if getattr(each, "name", "") == "__init__"]
        found = [
            (name, node) for name, node in nodes(FUNCTIONS)
            if node.name.startswith("__") and node.name not in IN_PLACE
            or any(ast.unparse(each) == "property" for each in node.decorator_list)
        ]
        at = 0
        while at < len(found):
            for each in ast.walk(found[at][1]):
                if isinstance(each, ast.Call):
                    found += [told for told in known.get(named(each), []) if told not in found]
            at += 1
        return found

    def test_nothing_is_changed(self):
        self.assertGreater(len(self.quiet()), 40)
        for name, node in self.quiet():
            made = {
                target.id for each in ast.walk(node) if isinstance(each, ast.Assign)
                and isinstance(each.value, (ast.List, ast.ListComp)) for target in each.targets
                if isinstance(target, ast.Name)
            }
            passed = [each.arg for each in ast.walk(node) if isinstance(each, ast.arg)]
            for each in ast.walk(node):
                with self.subTest(file=name, function=node.name, line=getattr(each, "lineno", 0)):
                    if isinstance(each, ast.Attribute) and node.name != "__init__":
                        self.assertIsInstance(each.ctx, ast.Load)
                    if isinstance(each, ast.Subscript):
                        self.assertIsInstance(each.ctx, ast.Load)
                    if isinstance(each, ast.AugAssign):
                        self.assertIsInstance(each.target, ast.Name)
                        self.assertIsInstance(each.value, ast.Constant)
                    if isinstance(each, ast.Call) and named(each) in MODIFYING:
                        self.assertIn(getattr(each.func.value, "id", ""), made)
                    if isinstance(each, ast.Call) and isinstance(each.func, ast.Name):
                        self.assertNotIn(each.func.id, passed)

    def test_not_implemented(self):
        for name, tree in TREES.items():
            for node in ast.walk(tree):
                for each in ast.iter_child_nodes(node):
                    if isinstance(each, ast.Name) and each.id == "NotImplemented":
                        self.assertIsInstance(node, ast.Return, name)

    def test_classes_with_items_are_not_iterated_over(self):
        for _, each in nodes(ast.ClassDef):
            names = [node.name for node in each.body if isinstance(node, FUNCTIONS)]
            self.assertTrue("__getitem__" not in names or "__iter__" in names)


if __name__ == "__main__":
    unittest.main()
