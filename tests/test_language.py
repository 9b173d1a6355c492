"""The rules of LANGUAGE.md that a short look at the files can check."""

import ast
import builtins
import re
import unittest
from pathlib import Path

PACKAGE = Path(__file__).resolve().parent.parent / "touchpin"
FILES = sorted(PACKAGE.glob("*.py"))

BUILTINS = set(
    "len range enumerate zip min max sum abs sorted reversed int str bool bytes list tuple dict set frozenset "
    "isinstance ord repr any all divmod Exception ValueError TypeError KeyError IndexError LookupError "
    "ZeroDivisionError ArithmeticError OverflowError RuntimeError NotImplementedError AttributeError "
    "StopIteration NotImplemented super property staticmethod classmethod".split())
BARRED_WORDS = (
    "type typing typing_extensions enum Enum IntEnum StrEnum Flag IntFlag Generic Protocol ABC ABCMeta namedtuple "
    "NamedTuple TypedDict TYPE_CHECKING abstractmethod").split()

METHODS = (
    "append clear copy count endswith extend find get index insert isalnum isalpha isdigit islower isspace isupper "
    "items join keys ljust lower lstrip partition pop remove replace reverse rfind rjust rpartition rsplit rstrip "
    "setdefault sort split splitlines startswith strip update upper values zfill bit_length add discard").split()


def trees():
    return [(path.name, ast.parse(path.read_text(encoding="utf-8"))) for path in FILES]


def bound_names(tree):
    """Names of parameters, of functions and classes, and of what is assigned to."""
    for node in ast.walk(tree):
        if isinstance(node, ast.arg):
            yield node.arg
        elif isinstance(node, ast.Name) and isinstance(node.ctx, ast.Store):
            yield node.id
        elif isinstance(node, ast.FunctionDef | ast.ClassDef):
            yield node.name


def own_methods():
    """The methods that the package's classes define."""
    classes = [node for _, tree in trees() for node in ast.walk(tree) if isinstance(node, ast.ClassDef)]
    return [node.name for each in classes for node in each.body if isinstance(node, ast.FunctionDef)]


class Files(unittest.TestCase):
    def test_nothing_but_sources(self):
        self.assertIn("__init__.py", [path.name for path in FILES])
        for path in PACKAGE.iterdir():
            if path.name != "__pycache__":
                self.assertRegex(path.name, r"\A[a-z0-9_]+\.py\Z")

    def test_sizes_and_signs(self):
        for path in FILES:
            text = path.read_text(encoding="utf-8")
            self.assertRegex(text, r"\A[ -~\n]*\Z", path.name)
            lines = text.split("\n")
            self.assertLessEqual(len(lines), 400, path.name)
            self.assertLessEqual(max(map(len, lines)), 120, path.name)

    def test_barred_words(self):
        barred = re.compile(r"\b(" + "|".join(BARRED_WORDS) + r")\b|dataclass|overload|contextmanager")
        for path in FILES:
            self.assertIsNone(barred.search(path.read_text(encoding="utf-8")), path.name)


class Code(unittest.TestCase):
    def test_functions_are_short(self):
        for name, tree in trees():
            for node in ast.walk(tree):
                if isinstance(node, ast.FunctionDef):
                    self.assertLessEqual(node.end_lineno - node.lineno + 1, 40, (name, node.name))

    def test_imports_are_of_the_package(self):
        for name, tree in trees():
            for node in ast.walk(tree):
                self.assertNotIsInstance(node, ast.Import, name)
                if isinstance(node, ast.ImportFrom):
                    self.assertEqual(node.level, 0, name)
                    self.assertRegex(node.module, r"\Atouchpin\.[a-z0-9_]+\Z", name)

    def test_only_the_listed_builtins(self):
        known = set(dir(builtins))
        for name, tree in trees():
            for node in ast.walk(tree):
                if isinstance(node, ast.Name) and node.id in known:
                    self.assertIn(node.id, BUILTINS, name)

    def test_names_are_plain_and_no_builtins(self):
        for name, tree in trees():
            for bound in bound_names(tree):
                self.assertNotIn(bound, dir(builtins), name)
                self.assertRegex(bound, r"\A([A-Za-z][A-Za-z0-9_]*|__[a-z]+__)\Z", name)

    def test_no_name_of_a_class_or_an_import_is_bound_again(self):
        for name, tree in trees():
            taken = [each.asname or each.name for node in tree.body if isinstance(node, ast.ImportFrom)
                     for each in node.names]
            taken += [node.name for node in tree.body if isinstance(node, ast.ClassDef)]
            self.assertEqual(len(taken), len(set(taken)), name)
            for node in ast.walk(tree):
                if isinstance(node, ast.arg):
                    self.assertNotIn(node.arg, taken, name)
                elif isinstance(node, ast.Name) and isinstance(node.ctx, ast.Store):
                    self.assertNotIn(node.id, taken, name)

    def test_no_files_import_each_other(self):
        named = {name[:-3]: {node.module.split(".")[1] for node in tree.body if isinstance(node, ast.ImportFrom)}
                 for name, tree in trees()}
        while named:
            free = [name for name in named if not named[name] & set(named)]
            self.assertTrue(free, named)
            for name in free:
                del named[name]

    def test_imports_name_the_file_that_defines_the_name(self):
        defined = {"touchpin." + name[:-3]: self.defined_in(tree) for name, tree in trees()}
        for name, tree in trees():
            for node in tree.body:
                if isinstance(node, ast.ImportFrom):
                    self.assertLessEqual({each.name for each in node.names}, defined[node.module], name)

    def defined_in(self, tree):
        made = {node.name for node in tree.body if isinstance(node, ast.FunctionDef | ast.ClassDef)}
        return made | {each.id for node in tree.body if isinstance(node, ast.Assign) for each in node.targets}

    def test_no_name_is_a_method_and_an_attribute(self):
        stored = {node.attr for _, tree in trees() for node in ast.walk(tree)
                  if isinstance(node, ast.Attribute) and isinstance(node.ctx, ast.Store)}
        self.assertEqual(stored & set(own_methods()), set())

    def test_is_only_with_none_and_truths(self):
        for name, tree in trees():
            for node in ast.walk(tree):
                if isinstance(node, ast.Compare) and any(isinstance(op, ast.Is | ast.IsNot) for op in node.ops):
                    told = [isinstance(each, ast.Constant) and repr(each.value) in ("None", "True", "False")
                            for each in node.comparators]
                    self.assertTrue(all(told), (name, node.lineno))

    def test_only_the_listed_methods(self):
        for name, tree in trees():
            for node in ast.walk(tree):
                if isinstance(node, ast.Call) and isinstance(node.func, ast.Attribute):
                    self.assertIn(node.func.attr, METHODS + own_methods(), (name, node.lineno))

    def test_no_floats_and_no_division(self):
        for name, tree in trees():
            for node in ast.walk(tree):
                self.assertNotIsInstance(node, ast.Div | ast.Global | ast.AsyncFunctionDef, name)
                if isinstance(node, ast.Constant):
                    self.assertNotIsInstance(node.value, float | complex, name)
                    self.assertNotIn("%", str(node.value), name)


if __name__ == "__main__":
    unittest.main()
