"""The package keeps to the part of the language that the program is written in, and to its layout.

The rules told by a glance at one file are checked here; the others are the reader's.
"""

import ast
import builtins
import re
import unittest
from pathlib import Path

PACKAGE = Path(__file__).resolve().parent.parent / "veiled"

INTERFACE = {
    "errors": ["VeilError", "BadTable", "BadView", "BadPlace", "BadNumber", "NoTable", "NotHidden"],
    "tables": ["is_table", "row_sums", "column_sums", "small_places"],
    "views": ["is_view", "view_of", "hidden_places", "rests", "has_view"],
    "filling": ["filled"],
    "bounds": ["ends", "walls", "given_away"],
    "hiding": ["hide"],
    "reader": ["holds"],
}

BUILTINS = set(
    "len range enumerate zip min max sum abs sorted reversed int str bool list tuple dict set"
    " isinstance ord repr any all divmod type super map Exception ValueError TypeError KeyError"
    " IndexError LookupError ZeroDivisionError ArithmeticError OverflowError RuntimeError".split()
)

METHODS = set(
    "append clear copy count endswith extend find get index insert isalnum isalpha isdigit islower"
    " isspace isupper items join keys ljust lower lstrip partition pop remove replace reverse rfind"
    " rjust rpartition rsplit rstrip setdefault split splitlines startswith strip update upper values"
    " zfill bit_length sort add discard".split()
)

LIBRARY = {"heapq", "math", "itertools", "collections"}

BARRED = (
    ast.AsyncFunctionDef, ast.AsyncFor, ast.AsyncWith, ast.Await, ast.Global, ast.Import,
    ast.Div, ast.MatMult,
)


def files():
    return {path.stem: path for path in sorted(PACKAGE.glob("*.py"))}


def trees():
    return {name: ast.parse(path.read_text()) for name, path in files().items()}


def functions(tree):
    kinds = (ast.FunctionDef, ast.AsyncFunctionDef)
    return [node for node in ast.walk(tree) if isinstance(node, kinds)]


def plain_texts(tree):
    """The literal strings of a file that are no docstrings."""
    lone = [node.value for node in ast.walk(tree) if isinstance(node, ast.Expr)]
    docs = [id(node) for node in lone if isinstance(node, ast.Constant)]
    texts = [node for node in ast.walk(tree) if isinstance(node, ast.Constant)]
    return [node.value for node in texts if isinstance(node.value, str) and id(node) not in docs]


class Layout(unittest.TestCase):
    def test_the_folder_holds_plain_files_only(self):
        for path in PACKAGE.iterdir():
            if path.name != "__pycache__":
                self.assertTrue(path.is_file(), path)
                self.assertRegex(path.name, r"^([a-z][a-z0-9_]*|__init__|__main__)\.py$")
        self.assertIn("__init__", files())

    def test_the_interface_is_defined_where_it_is_listed(self):
        parsed = trees()
        for name, listed in INTERFACE.items():
            kinds = (ast.FunctionDef, ast.ClassDef)
            defined = [node.name for node in parsed[name].body if isinstance(node, kinds)]
            for word in listed:
                self.assertIn(word, defined)

    def test_sizes(self):
        for name, path in files().items():
            lines = path.read_text().split("\n")
            self.assertLessEqual(len(lines), 400, name)
            for line in lines:
                self.assertLessEqual(len(line), 120, (name, line))
                self.assertEqual(line, line.rstrip(), name)
                self.assertRegex(line, r"^[ -~]*$", name)
            for node in functions(ast.parse("\n".join(lines))):
                self.assertLessEqual(node.end_lineno - node.lineno + 1, 40, (name, node.name))


class Words(unittest.TestCase):
    def test_module_level(self):
        plain = (ast.ImportFrom, ast.FunctionDef, ast.ClassDef)
        for name, tree in trees().items():
            self.assertIsNotNone(ast.get_docstring(tree), name)
            for node in tree.body[1:]:
                if isinstance(node, ast.Assign):
                    self.assertEqual([type(target) for target in node.targets], [ast.Name], name)
                else:
                    self.assertIsInstance(node, plain, name)

    def test_imports_name_the_file_that_defines_the_name(self):
        parsed = trees()
        for name, tree in parsed.items():
            for node in ast.walk(tree):
                if isinstance(node, ast.ImportFrom) and node.module not in LIBRARY:
                    self.assertEqual(node.level, 0)
                    package, _, file = node.module.partition(".")
                    self.assertEqual(package, "veiled", name)
                    known = [top.name for top in parsed[file].body if hasattr(top, "name")]
                    for word in node.names:
                        self.assertIn(word.name, known)

    def test_no_ring_of_imports(self):
        above = {
            name: {
                node.module.partition(".")[2]
                for node in ast.walk(tree)
                if isinstance(node, ast.ImportFrom) and node.module not in LIBRARY
            }
            for name, tree in trees().items()
        }
        self.assertEqual(above["__init__"], set())
        while above:
            free = [name for name in above if not above[name]]
            self.assertTrue(free, above)
            above = {name: above[name] - set(free) for name in above if name not in free}

    def test_nodes(self):
        for name, tree in trees().items():
            for node in ast.walk(tree):
                self.assertNotIsInstance(node, BARRED, name)
                if isinstance(node, ast.Constant):
                    self.assertNotIsInstance(node.value, (float, complex), name)
                if isinstance(node, ast.Compare):
                    self.is_plain(node, name)

    def is_plain(self, node, name):
        for sign, right in zip(node.ops, node.comparators):
            if isinstance(sign, (ast.Is, ast.IsNot)):
                self.assertIsInstance(right, ast.Constant, name)
                self.assertIn(right.value, (None, True, False), name)

    def test_names_and_methods(self):
        for name, tree in trees().items():
            walked = list(ast.walk(tree))
            imported = [word.name for node in walked if isinstance(node, ast.ImportFrom) for word in node.names]
            own = {node.name for node in walked if isinstance(node, (ast.FunctionDef, ast.ClassDef))}
            for node in walked:
                if isinstance(node, ast.Name) and node.id in vars(builtins):
                    self.assertIsInstance(node.ctx, ast.Load, (name, node.id))
                    self.assertIn(node.id, BUILTINS, name)
                if isinstance(node, ast.arg):
                    self.assertNotIn(node.arg, list(vars(builtins)) + imported, name)
                if isinstance(node, ast.Call) and isinstance(node.func, ast.Attribute):
                    self.assertIn(node.func.attr, METHODS | own | {"__init__"}, name)

    def test_barred_words(self):
        """Words that stand nowhere, not even in comments, and names that no function or variable has."""
        for name, path in files().items():
            self.assertNotRegex(path.read_text(), r"_wall|_WallAttr", name)
            for node in ast.walk(ast.parse(path.read_text())):
                word = getattr(node, "id", getattr(node, "arg", getattr(node, "name", None)))
                if isinstance(word, str):
                    self.assertNotRegex(word, r"^(_pe_|_dcw_|_enum_|_cm_|_lay_|_law_|_stub_|_sre|__(?!init__$))", name)
                    self.assertNotIn(word, ("register", "mro", "elements", "open", "input", "law"), name)

    def test_strings(self):
        for name, tree in trees().items():
            for text in plain_texts(tree):
                self.assertNotIn("%", text, name)
                self.assertIsNone(re.search(r"\\|__", text), (name, text))


if __name__ == "__main__":
    unittest.main()
