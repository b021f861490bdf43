"""Rules of the language that the package is written in, as far as they are easily seen."""

import ast
import builtins
import re
import unittest
from pathlib import Path

FOLDER = Path(__file__).resolve().parent.parent / "drawingoffice"
BUILTINS = set("""len range enumerate zip min max sum abs sorted reversed int str bool list tuple dict set frozenset
isinstance ord repr any all divmod pow iter next map getattr hasattr setattr property classmethod staticmethod super
Exception ValueError TypeError KeyError IndexError LookupError ZeroDivisionError ArithmeticError OverflowError
RuntimeError NotImplementedError AttributeError StopIteration NotImplemented""".split())
BARRED_WORDS = set("""typing typing_extensions enum Enum IntEnum StrEnum Flag IntFlag Generic Protocol ABC ABCMeta
namedtuple NamedTuple TypedDict TYPE_CHECKING abstractmethod register mro elements open input law version_info
with_traceback add_note type eval exec compile vars dir id globals locals""".split())
METHODS = set("""append clear copy count endswith extend find get index insert isalnum isalpha isdigit islower isspace
isupper items join keys ljust lower lstrip partition pop remove replace reverse rfind rjust rpartition rsplit rstrip
setdefault split splitlines startswith strip update upper values zfill bit_length add discard""".split())
LIBRARY = {"heapq", "math", "itertools", "collections"}


def trees():
    return [(path.name, ast.parse(path.read_text())) for path in sorted(FOLDER.glob("*.py"))]


def nodes(*kinds):
    return [(name, node) for name, tree in trees() for node in ast.walk(tree) if isinstance(node, kinds)]


class Language(unittest.TestCase):
    def test_files(self):
        found = sorted(path.name for path in FOLDER.iterdir() if path.name != "__pycache__")
        self.assertTrue(all(re.fullmatch("[a-z_]+[.]py", name) for name in found), found)
        for path in FOLDER.glob("*.py"):
            lines = path.read_bytes().decode("ascii").split("\n")
            self.assertLessEqual(len(lines), 400, path.name)
            for line in lines:
                self.assertLessEqual(len(line), 120, path.name)
                self.assertTrue(all(" " <= char <= "~" for char in line), path.name)

    def test_functions_are_small(self):
        for name, node in nodes(ast.FunctionDef):
            self.assertLessEqual(node.end_lineno - node.lineno + 1, 40, (name, node.name))

    def test_imports_name_the_file_that_defines_the_name(self):
        self.assertEqual(nodes(ast.Import), [])
        defined = {}
        for name, tree in trees():
            own = [node.name for node in tree.body if isinstance(node, (ast.FunctionDef, ast.ClassDef))]
            own += [node.targets[0].id for node in tree.body if isinstance(node, ast.Assign)]
            self.assertEqual(len(own), len(set(own)), name)
            defined["drawingoffice." + name[:-3]] = own
        for name, node in nodes(ast.ImportFrom):
            self.assertEqual((node.level, [alias.asname for alias in node.names if alias.asname]), (0, []), name)
            if node.module not in LIBRARY:
                self.assertLessEqual({alias.name for alias in node.names}, set(defined[node.module]), name)

    def test_no_circle_of_imports(self):
        needs = {"drawingoffice." + name[:-3]: set() for name, tree in trees()}
        for name, node in nodes(ast.ImportFrom):
            needs["drawingoffice." + name[:-3]].add(node.module)
        while needs:
            free = [name for name in needs if not needs[name] & set(needs)]
            self.assertTrue(free, needs)
            for name in free:
                del needs[name]

    def test_every_import_is_used(self):
        for name, tree in trees():
            used = {node.id for node in ast.walk(tree) if isinstance(node, ast.Name)}
            for node in tree.body:
                if isinstance(node, ast.ImportFrom):
                    self.assertLessEqual({alias.name for alias in node.names}, used, name)

    def test_builtins(self):
        known = set(dir(builtins)) - {"_"}
        for name, node in nodes(ast.Name):
            if isinstance(node.ctx, ast.Load):
                self.assertTrue(node.id not in known or node.id in BUILTINS, (name, node.id))
            else:
                self.assertNotIn(node.id, known, name)
        for name, node in nodes(ast.arg):
            self.assertNotIn(node.arg, known, name)

    def test_methods_are_own_ones_or_plain_ones(self):
        own = {node.name for name, node in nodes(ast.FunctionDef)}
        for name, node in nodes(ast.Call):
            if isinstance(node.func, ast.Attribute):
                self.assertTrue(node.func.attr in METHODS | own, (name, node.lineno, node.func.attr))

    def test_locals_do_not_hide_imports_and_classes(self):
        for name, tree in trees():
            taken = {alias.name for node in tree.body if isinstance(node, ast.ImportFrom) for alias in node.names}
            taken |= {node.name for node in tree.body if isinstance(node, ast.ClassDef)}
            for node in ast.walk(tree):
                if isinstance(node, ast.arg):
                    self.assertNotIn(node.arg, taken, name)
                if isinstance(node, ast.Name) and isinstance(node.ctx, ast.Store):
                    self.assertNotIn(node.id, taken, name)

    def test_words_and_strings(self):
        for name, node in nodes(ast.Name, ast.Attribute, ast.arg, ast.FunctionDef, ast.ClassDef):
            word = getattr(node, "id", None) or getattr(node, "attr", None) or getattr(node, "arg", None) or node.name
            self.assertNotIn(word, BARRED_WORDS, name)
            self.assertRegex(word, "^(_|_?[A-Za-z][A-Za-z0-9_]*|__[a-z]+__)$", name)
        for name, node in nodes(ast.Constant):
            if isinstance(node.value, str):
                self.assertNotIn("%", node.value, name)
            self.assertNotIsInstance(node.value, (float, bytes), name)

    def test_properties_methods_and_attributes_have_different_names(self):
        properties, methods = set(), set()
        for name, node in nodes(ast.ClassDef):
            for method in node.body:
                if isinstance(method, ast.FunctionDef):
                    words = [word.id for word in method.decorator_list if isinstance(word, ast.Name)]
                    (properties if "property" in words else methods).add(method.name)
        stored = {node.attr for name, node in nodes(ast.Attribute) if isinstance(node.ctx, ast.Store)}
        self.assertEqual((properties & stored, properties & methods, methods & stored), (set(), set(), set()))

    def test_nothing_that_the_language_lacks(self):
        lacking = (ast.Global, ast.AsyncFunctionDef, ast.Await, ast.Div)
        self.assertEqual(nodes(*lacking), [])

    def test_sorted_min_and_max_take_numbers_and_strings(self):
        # Forms have an order, so what is sorted must plainly be no form.
        for name, node in nodes(ast.Call):
            if isinstance(node.func, ast.Name) and node.func.id in ("sorted", "min", "max"):
                plain = [self.is_plain(argument) for argument in node.args]
                self.assertTrue(any(plain) if len(plain) > 1 else plain == [True], (name, node.lineno))

    def is_plain(self, node):
        if isinstance(node, ast.ListComp):
            return self.is_plain(node.elt)
        if isinstance(node, ast.Call):
            # A set is plain, for what has an order has an `==` of its own, too, and is in no set.
            return isinstance(node.func, ast.Name) and node.func.id in ("len", "int", "str", "repr", "ord", "set")
        return isinstance(node, ast.Constant)


if __name__ == "__main__":
    unittest.main()
