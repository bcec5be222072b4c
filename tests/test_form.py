"""The form of the package's files: the rules of the language that can be seen from the code alone."""

import ast
import builtins
import pathlib
import re
import unittest
import warnings

PACKAGE = pathlib.Path(__file__).resolve().parent.parent / "missedmarks"
LIBRARY = {
    "heapq": {"heappush", "heappop", "heapify", "heapreplace", "heappushpop"},
    "math": {"gcd", "lcm", "isqrt", "comb", "perm", "factorial"},
    "itertools": {"product", "combinations", "permutations"},
}
BUILTINS = set(
    "len range enumerate zip min max sum abs sorted reversed int str bool list tuple dict set frozenset isinstance"
    " ord repr any all divmod map iter next super Exception ValueError TypeError KeyError IndexError LookupError"
    " ZeroDivisionError ArithmeticError OverflowError RuntimeError NotImplementedError AttributeError NotImplemented"
    .split()
)
METHODS = set(
    "append clear copy count endswith extend find get index insert isalnum isalpha isdigit islower isspace isupper"
    " items join keys ljust lower lstrip partition pop remove replace reverse rfind rjust rpartition rsplit rstrip"
    " setdefault split splitlines startswith strip update upper values zfill bit_length add discard sort".split()
)
DOUBLE = {"__init__", "__eq__", "__repr__", "__str__", "__len__", "__enter__", "__exit__", "__call__", "__iter__"}
STATEMENTS = (
    ast.FunctionDef, ast.ClassDef, ast.Return, ast.Assign, ast.AugAssign, ast.For, ast.While, ast.If, ast.Match,
    ast.Raise, ast.Try, ast.With, ast.Assert, ast.Delete, ast.Expr, ast.Pass, ast.Break, ast.Continue, ast.Nonlocal,
    ast.ImportFrom,
)
WITH_DOCSTRING = (ast.Module, ast.ClassDef, ast.FunctionDef)
BARRED = (ast.Await, ast.Div, ast.MatMult, ast.MatchClass, ast.MatchMapping)

# Words that may stand nowhere in a file but in comments and docstrings.
BARRED_WORDS = set(
    "type typing typing_extensions enum Enum IntEnum StrEnum Flag IntFlag Generic Protocol ABC ABCMeta namedtuple"
    " NamedTuple TypedDict TYPE_CHECKING abstractmethod register mro elements open input law version_info exit help"
    " id dir vars compile eval exec globals locals getattr setattr hasattr delattr breakpoint copyright credits license"
    .split()
)


def trees():
    """Each file of the package with its text and its tree."""
    for path in sorted(PACKAGE.glob("**/*.py")):
        text = path.read_text(encoding="utf-8")
        with warnings.catch_warnings():
            warnings.simplefilter("error")
            compile(text, str(path), "exec")
        yield path.name, text, ast.parse(text)


def bound_names(tree):
    """All names that a file gives to something, but methods and attributes."""
    for node in ast.walk(tree):
        if isinstance(node, ast.Name) and not isinstance(node.ctx, ast.Load):
            yield node.id
        elif isinstance(node, (ast.FunctionDef, ast.ClassDef)) and node in tree.body:
            yield node.name
        elif isinstance(node, ast.arg):
            yield node.arg
        elif isinstance(node, (ast.MatchAs, ast.MatchStar)) and node.name:
            yield node.name
        elif isinstance(node, ast.alias):
            yield node.asname or node.name


class Form(unittest.TestCase):
    def test_the_folder(self):
        for path in PACKAGE.rglob("*"):
            if "__pycache__" not in path.parts:
                self.assertEqual(path.suffix, ".py", path)
                self.assertRegex(path.name, "^[a-z_][a-z0-9_]*[.]py$")

    def test_sizes_and_characters(self):
        for name, text, tree in trees():
            self.assertLessEqual(len(text.splitlines()), 399, name)
            for at, line in enumerate(text.split("\n")):
                self.assertLessEqual(len(line), 120, (name, at))
                self.assertTrue(all(" " <= sign <= "~" for sign in line), (name, at))
                self.assertNotRegex(line, "[ ]$")
            for node in ast.walk(tree):
                if isinstance(node, ast.FunctionDef):
                    self.assertLessEqual(node.end_lineno - node.lineno + 1, 40, (name, node.name))

    def test_imports_stand_at_the_top_and_come_from_the_package(self):
        for name, _, tree in trees():
            ahead = True
            for node in tree.body:
                if isinstance(node, ast.ImportFrom):
                    self.assertTrue(ahead, name)
                    self.assertEqual(node.level, 0)
                    known = LIBRARY.get(node.module)
                    self.assertTrue(known or node.module.startswith("missedmarks."), (name, node.module))
                    self.assertTrue(all(known is None or alias.name in known for alias in node.names), name)
                elif not isinstance(node, ast.Expr):
                    ahead = False
            inner = [node for node in ast.walk(tree) if isinstance(node, ast.ImportFrom) and node not in tree.body]
            self.assertEqual(inner, [], name)

    def test_only_these_statements_and_expressions(self):
        for name, _, tree in trees():
            for node in ast.walk(tree):
                where = (name, getattr(node, "lineno", 0), node.__class__.__name__)
                if isinstance(node, ast.stmt):
                    self.assertIsInstance(node, STATEMENTS, where)
                self.assertNotIsInstance(node, BARRED, where)
                if isinstance(node, (ast.FunctionDef, ast.ClassDef)):
                    self.assertEqual(node.decorator_list, [], where)
            for node in tree.body:
                self.assertIsInstance(node, (ast.Expr, ast.ImportFrom, ast.FunctionDef, ast.ClassDef, ast.Assign))
                if isinstance(node, ast.Expr):
                    self.assertIsInstance(node.value, ast.Constant)

    def test_names(self):
        for name, _, tree in trees():
            bound = set(bound_names(tree))
            for word in bound:
                self.assertNotIn(word, dir(builtins), name)
                self.assertFalse(word.startswith("__"), (name, word))
            for node in ast.walk(tree):
                if isinstance(node, ast.Name) and isinstance(node.ctx, ast.Load) and node.id not in bound:
                    self.assertIn(node.id, BUILTINS, (name, node.lineno))
                if isinstance(node, ast.FunctionDef) and node.name.startswith("__"):
                    self.assertIn(node.name, DOUBLE, (name, node.lineno))

    def test_each_name_is_bound_once_in_a_file(self):
        for name, _, tree in trees():
            words = []
            for node in tree.body:
                if isinstance(node, (ast.FunctionDef, ast.ClassDef)):
                    words.append(node.name)
                elif isinstance(node, ast.ImportFrom):
                    words += [alias.name for alias in node.names]
                elif isinstance(node, ast.Assign):
                    words += [target.id for target in node.targets]
            self.assertEqual(sorted(set(words)), sorted(words), name)

    def test_methods_that_are_called_are_own_or_plain_ones(self):
        files = list(trees())
        own = {node.name for _, _, tree in files for node in ast.walk(tree) if isinstance(node, ast.FunctionDef)}
        for name, _, tree in files:
            for node in ast.walk(tree):
                if isinstance(node, ast.Call) and isinstance(node.func, ast.Attribute):
                    self.assertIn(node.func.attr, own | METHODS, (name, node.lineno))

    def test_no_name_is_a_method_and_an_attribute_of_one_class(self):
        for name, _, tree in trees():
            for found in [node for node in tree.body if isinstance(node, ast.ClassDef)]:
                methods = [node.name for node in found.body if isinstance(node, ast.FunctionDef)]
                self.assertEqual(sorted(set(methods)), sorted(methods), name)
                for node in ast.walk(found):
                    if isinstance(node, ast.Attribute) and isinstance(node.ctx, ast.Store):
                        self.assertNotIn(node.attr, methods, (name, node.lineno))

    def test_barred_words(self):
        for name, text, tree in trees():
            docstrings = [ast.get_docstring(node, False) for node in ast.walk(tree) if isinstance(node, WITH_DOCSTRING)]
            words = set()
            for node in ast.walk(tree):
                if isinstance(node, ast.Constant) and isinstance(node.value, str) and node.value not in docstrings:
                    words |= set(re.findall("[A-Za-z_]+", node.value))
                for field in ("id", "attr", "arg", "name"):
                    words.add(getattr(node, field, None))
            self.assertEqual(words & BARRED_WORDS, set(), name)
            self.assertNotIn("_wall", text)

    def test_who_is_iterated_over(self):
        """A class that is iterated over and has a length: then nothing comes from itertools."""
        for name, _, tree in trees():
            modules = [node.module for node in tree.body if isinstance(node, ast.ImportFrom)]
            self.assertNotIn("itertools", modules, name)
            for node in ast.walk(tree):
                if isinstance(node, ast.FunctionDef) and node.name == "__iter__":
                    self.assertEqual(ast.unparse(node.body[-1]), "return iter(self._events)")
                    self.assertEqual(len(node.body), 1)
                if isinstance(node, ast.FunctionDef) and node.name == "__len__":
                    self.assertTrue(ast.unparse(node.body[-1]).startswith("return len("))

    def test_lists_for_all_and_any(self):
        """A class tells itself what == means: all, any, min, max, sum and sorted take no generator expressions."""
        for name, _, tree in trees():
            for node in ast.walk(tree):
                self.assertNotIsInstance(node, ast.GeneratorExp, (name, getattr(node, "lineno", 0)))

    def test_strings_and_numbers(self):
        for name, _, tree in trees():
            for node in ast.walk(tree):
                if isinstance(node, ast.Constant):
                    self.assertNotIsInstance(node.value, (float, complex), (name, node.lineno))
                    self.assertFalse(isinstance(node.value, str) and "%" in node.value, (name, node.lineno))
                if isinstance(node, ast.BinOp) and isinstance(node.op, ast.Pow):
                    self.assertIsInstance(node.right, ast.Constant, (name, node.lineno))
