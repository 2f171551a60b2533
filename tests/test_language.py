"""Some rules of LANGUAGE.md that can be seen in the files of the package."""

import ast
import builtins
import pathlib
import re
import unittest

PACKAGE = pathlib.Path(__file__).resolve().parent.parent / "rankswithin"
FILES = sorted(PACKAGE.glob("*.py"))
# What may be imported from outside of the package (L2).
LIBRARY = {"heapq": {"heappush", "heappop"}, "math": {"comb", "factorial"}, "itertools": {"combinations"}}
BARRED_NODES = (ast.Global, ast.AsyncFunctionDef, ast.Await, ast.Import)
BARRED_NAMES = {"register", "mro", "elements", "open", "input", "law", "os", "eval", "exec", "id", "dir", "vars"}
BARRED_WORDS = re.compile(r"(?<!\w)(type|typing|enum|Enum|Flag|Generic|Protocol|ABC|namedtuple)(?!\w)")


class Language(unittest.TestCase):
    def trees(self):
        """The files with what Python reads from them."""
        return [(path.name, ast.parse(path.read_text(encoding="utf-8"))) for path in FILES]

    def test_L1_nothing_but_files_with_plain_names(self):
        for path in PACKAGE.iterdir():
            if path.name != "__pycache__":
                self.assertRegex(path.name, r"^[a-z][a-z0-9_]*\.py$|^__init__\.py$")

    def test_L2_imports_from_the_package_by_full_names(self):
        for name, tree in self.trees():
            for node in ast.walk(tree):
                if isinstance(node, ast.ImportFrom):
                    words = {alias.name for alias in node.names}
                    self.assertEqual(node.level, 0, name)
                    self.assertNotIn("*", words)
                    if not node.module.startswith("rankswithin."):
                        self.assertLessEqual(words, LIBRARY.get(node.module, set()), name)
                        self.assertEqual([alias.asname for alias in node.names if alias.asname], [], name)

    def test_L2_what_comes_from_the_library_is_only_called(self):
        for name, tree in self.trees():
            library = {alias.name for node in imports_of(tree) if node.module in LIBRARY for alias in node.names}
            called = [node.func for node in ast.walk(tree) if isinstance(node, ast.Call)]
            for node in ast.walk(tree):
                if isinstance(node, ast.Name) and node.id in library:
                    self.assertIn(node, called, (name, node.id))

    def test_L2_imports_stand_at_the_top(self):
        for name, tree in self.trees():
            kinds = [isinstance(node, ast.ImportFrom) for node in tree.body[1:]]
            self.assertEqual(kinds, sorted(kinds, reverse=True), name)

    def test_L16_no_files_import_from_each_other(self):
        wanted = {}
        for name, tree in self.trees():
            modules = [node.module for node in imports_of(tree) if node.module not in LIBRARY]
            wanted[name] = {f"{module.split('.')[1]}.py" for module in modules}
        while wanted:
            ready = [name for name, others in wanted.items() if not others & set(wanted)]
            self.assertNotEqual(ready, [], f"a cycle among {sorted(wanted)}")
            wanted = {name: others for name, others in wanted.items() if name not in ready}

    def test_L4_and_L6_and_L7_what_is_not_used(self):
        for name, tree in self.trees():
            for node in ast.walk(tree):
                self.assertNotIsInstance(node, BARRED_NODES, name)
                self.assertNotIsInstance(getattr(node, "value", None), float, name)
                self.assertNotIsInstance(node, ast.Div, name)
                self.assertEqual(getattr(node, "decorator_list", []), [], name)

    def test_L20_is(self):
        for name, tree in self.trees():
            for node in ast.walk(tree):
                if isinstance(node, ast.Compare) and isinstance(node.ops[-1], (ast.Is, ast.IsNot)):
                    self.assertIsInstance(node.comparators[-1], ast.Constant, name)

    def test_L10_sizes(self):
        for path in FILES:
            lines = path.read_text(encoding="utf-8").split("\n")
            self.assertLessEqual(len(lines), 399, path.name)
            self.assertLessEqual(max(len(line) for line in lines), 120, path.name)
        for name, tree in self.trees():
            for node in ast.walk(tree):
                if isinstance(node, ast.FunctionDef):
                    self.assertLessEqual(node.end_lineno - node.lineno + 1, 40, (name, node.name))

    def test_L14_characters(self):
        for path in FILES:
            self.assertRegex(path.read_bytes().decode("ascii"), r"\A[ -~\n]*\Z", path.name)

    def test_L15_no_name_of_a_builtin_or_an_import_is_given_another_meaning(self):
        for name, tree in self.trees():
            imported = [alias.name for node in imports_of(tree) for alias in node.names]
            for word in bound_names(tree):
                self.assertFalse(hasattr(builtins, word) and word[0] != "_", (name, word))
                self.assertNotIn(word, imported, name)
                self.assertNotIn(word, BARRED_NAMES, name)

    def test_L3_and_L15_what_stands_at_module_level(self):
        for name, tree in self.trees():
            for node in tree.body[1:]:
                self.assertIsInstance(node, (ast.ImportFrom, ast.FunctionDef, ast.ClassDef, ast.Assign), name)
                if isinstance(node, ast.Assign):
                    self.assertIsInstance(node.targets[0], ast.Name, name)
                    inside = [part for part in ast.walk(node.value) if part is not node.value]
                    self.assertFalse(any(isinstance(part, (ast.List, ast.Dict, ast.Name, ast.Call)) for part in inside))
                    self.assertNotIsInstance(node.value, (ast.Name, ast.Call), name)

    def test_L18_and_L26_methods_and_attributes(self):
        for name, tree in self.trees():
            for node in tree.body:
                if isinstance(node, ast.ClassDef):
                    methods = [part.name for part in node.body if isinstance(part, ast.FunctionDef)]
                    stored = {part.attr for part in ast.walk(node)
                              if isinstance(part, ast.Attribute) and isinstance(part.ctx, ast.Store)}
                    self.assertEqual(len(set(methods)), len(methods), name)
                    self.assertEqual(stored & set(methods), set(), name)
                    for word in stored:
                        self.assertFalse(any(hasattr(value, word) for value in ("", 0, [], {}, (), set(), b"")), word)

    def test_L17_words(self):
        for name, tree in self.trees():
            strip_docstrings(tree)
            self.assertIsNone(BARRED_WORDS.search(ast.unparse(tree)), name)

    def test_L27_strings(self):
        for name, tree in self.trees():
            for node in ast.walk(tree):
                if isinstance(node, ast.Constant) and isinstance(node.value, str):
                    self.assertNotIn("%", node.value, name)


def imports_of(tree):
    """The imports at the top of a file."""
    return [node for node in tree.body if isinstance(node, ast.ImportFrom)]


def bound_names(tree):
    """All names of functions, classes, parameters and variables."""
    for node in ast.walk(tree):
        if isinstance(node, (ast.FunctionDef, ast.ClassDef)):
            yield node.name
        elif isinstance(node, ast.arg):
            yield node.arg
        elif isinstance(node, ast.Name) and isinstance(node.ctx, ast.Store):
            yield node.id


def strip_docstrings(tree):
    """Take the docstrings out of the tree, in which all words may stand."""
    for node in ast.walk(tree):
        if isinstance(node, (ast.Module, ast.ClassDef, ast.FunctionDef)) and ast.get_docstring(node) is not None:
            node.body = node.body[1:] or [ast.Pass()]


if __name__ == "__main__":
    unittest.main()
