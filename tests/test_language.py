"""Some rules of the language that the package is written in, as far as a test can see them."""

import ast
import builtins
import pathlib
import re
import unittest

PACKAGE = pathlib.Path(__file__).resolve().parent.parent / "sheetwatch"
FILES = sorted(path for path in PACKAGE.rglob("*") if path.is_file() and "__pycache__" not in path.parts)
BUILTINS = (
    "len range enumerate zip min max sum abs sorted reversed int str bool bytes list tuple dict set isinstance ord "
    "repr any all divmod map iter next super property staticmethod classmethod"
).split()
BARRED_WORDS = (
    "type typing enum Enum dataclass namedtuple NamedTuple TypedDict Protocol ABC open input law register version_info"
).split()


class LanguageTest(unittest.TestCase):
    def each_tree(self):
        for path in FILES:
            yield path, ast.parse(path.read_text(encoding="ascii"))

    def test_the_package_holds_files_of_the_program_alone(self):
        for path in FILES:
            self.assertRegex(path.name, r"^[a-z_][a-z0-9_]*\.py$")
        self.assertTrue((PACKAGE / "__init__.py").is_file())

    def test_sizes_and_characters(self):
        for path in FILES:
            text = path.read_text(encoding="ascii")
            self.assertRegex(text, r"\A[\n -~]*\Z", path)
            lines = text.splitlines()
            self.assertLessEqual(len(lines), 399, path)
            self.assertLessEqual(max((len(line) for line in lines), default=0), 120, path)

    def test_functions_are_short(self):
        for path, tree in self.each_tree():
            for node in ast.walk(tree):
                if isinstance(node, ast.FunctionDef):
                    self.assertLessEqual(node.end_lineno - node.lineno + 1, 40, (path, node.name))

    def test_imports_name_the_file_that_defines(self):
        trees = {f"sheetwatch.{path.stem}": tree for path, tree in self.each_tree()}
        for path, tree in self.each_tree():
            for node in ast.walk(tree):
                self.assertNotIsInstance(node, ast.Import, path)
                if isinstance(node, ast.ImportFrom):
                    self.assertEqual(node.level, 0, path)
                    defined = names_defined(trees[node.module])
                    for alias in node.names:
                        self.assertIn(alias.name, defined, path)

    def test_values_and_calls(self):
        for path, tree in self.each_tree():
            known = (*BUILTINS, *names_known(tree))
            for node in ast.walk(tree):
                if isinstance(node, ast.Constant):
                    self.assertNotIsInstance(node.value, (float, complex), path)
                    self.assertNotIn("%", str(node.value), path)
                if isinstance(node, ast.Call) and isinstance(node.func, ast.Name):
                    self.assertIn(node.func.id, known, path)

    def test_barred_words(self):
        for path in FILES:
            words = re.findall(r"\w+", path.read_text(encoding="ascii"))
            for word in BARRED_WORDS:
                self.assertNotIn(word, words, path)


    def test_local_names_are_no_names_of_the_file_or_of_python(self):
        for path, tree in self.each_tree():
            taken = {alias.asname or alias.name for node in tree.body if isinstance(node, ast.ImportFrom)
                     for alias in node.names}
            taken.update(node.name for node in tree.body if isinstance(node, ast.ClassDef))
            for node in ast.walk(tree):
                if isinstance(node, ast.arg):
                    self.assertNotIn(node.arg, [*taken, *dir(builtins)], path)
                elif isinstance(node, ast.Name) and isinstance(node.ctx, ast.Store):
                    self.assertNotIn(node.id, [*taken, *dir(builtins)], path)

    def test_is_stands_beside_none_true_and_false(self):
        for path, tree in self.each_tree():
            for node in ast.walk(tree):
                if isinstance(node, ast.Compare) and isinstance(node.ops[0], (ast.Is, ast.IsNot)):
                    other = node.comparators[0]
                    self.assertTrue(isinstance(other, ast.Constant) and other.value in (None, True, False), path)

    def test_no_name_is_a_method_and_an_attribute_of_one_class(self):
        for path, tree in self.each_tree():
            for found in [node for node in tree.body if isinstance(node, ast.ClassDef)]:
                methods = {node.name for node in found.body if isinstance(node, ast.FunctionDef)}
                for node in ast.walk(found):
                    if isinstance(node, ast.Attribute) and isinstance(node.ctx, ast.Store):
                        self.assertNotIn(node.attr, methods, (path, found.name))

    def test_no_two_files_import_from_each_other(self):
        imported = {path.stem: [node.module.partition(".")[2] for node in tree.body if isinstance(node, ast.ImportFrom)]
                    for path, tree in self.each_tree()}
        done = []
        while len(done) < len(imported):
            ready = [name for name in imported if name not in done and set(imported[name]) <= set(done)]
            self.assertTrue(ready, sorted(set(imported) - set(done)))
            done.extend(ready)

    def test_sets_are_used_on_the_spot(self):
        for path, tree in self.each_tree():
            allowed = [node.args[0] for node in ast.walk(tree) if isinstance(node, ast.Call)
                       and isinstance(node.func, ast.Name) and node.func.id in ("sorted", "len")]
            for node in ast.walk(tree):
                is_call = isinstance(node, ast.Call) and isinstance(node.func, ast.Name) and node.func.id == "set"
                if is_call or isinstance(node, (ast.Set, ast.SetComp)):
                    self.assertIn(node, allowed, path)


def names_defined(tree):
    found = set()
    for node in tree.body:
        if isinstance(node, (ast.FunctionDef, ast.ClassDef)):
            found.add(node.name)
        elif isinstance(node, ast.Assign):
            found.update(target.id for target in node.targets)
    return found


def names_known(tree):
    """The names of a file that may be called: its own, the imported ones and parameters."""
    found = names_defined(tree)
    for node in ast.walk(tree):
        if isinstance(node, ast.ImportFrom):
            found.update(alias.name for alias in node.names)
        elif isinstance(node, ast.arg):
            found.add(node.arg)
    return found
