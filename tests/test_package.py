"""The interface, and point 1 as far as the source shows it: no clock, chance or files."""

import ast
import pathlib
import unittest

ROOT = pathlib.Path(__file__).resolve().parent.parent
PACKAGE = ROOT / "precread"

INTERFACE = {
    "errors.py": {"ReadError": ["ValueError"], "NoWord": ["ReadError"],
                  "NoTelling": ["ReadError"], "Clash": ["ReadError"], "NoPart": ["ReadError"],
                  "NoTree": ["ReadError"], "TooMuch": ["ReadError"]},
    "words.py": {"cut": ["text"], "is_word": ["thing"]},
    "tables.py": {"added": ["table", "telling"], "role": ["table", "word", "ahead"]},
    "trees.py": {"belongs": ["table", "tree"], "strength": ["table", "tree"],
                 "enough": ["telling", "place", "power"]},
    "reading.py": {"tree_of": ["table", "row"]},
    "showing.py": {"row_of": ["table", "tree"]},
    "texts.py": {"read": ["text"], "written": ["parts"], "Reader": []},
}

# The methods that the interface lists for a class, each with its parameters.
METHODS = {"__init__": ["self"], "take": ["self", "row"], "table": ["self"]}

# The builtins that reach a clock, chance, files or what Python itself holds.
BARRED = {"open", "input", "print", "eval", "exec", "compile", "id", "hash", "globals",
          "locals", "vars", "dir", "breakpoint", "help", "exit", "quit", "object", "__import__"}


def sources():
    """The path and the syntax tree of each file of the package."""
    return [(path, ast.parse(path.read_text())) for path in sorted(PACKAGE.glob("*.py"))]


def defined(tree):
    """The functions of a file or class with their parameters, the classes with their bases."""
    found = {}
    for node in tree.body:
        if isinstance(node, ast.FunctionDef):
            found[node.name] = [parameter.arg for parameter in node.args.args]
        if isinstance(node, ast.ClassDef):
            found[node.name] = [base.id for base in node.bases]
    return found


class Package(unittest.TestCase):

    def test_each_name_is_defined_in_its_own_file(self):
        for name, wanted in INTERFACE.items():
            found = defined(ast.parse((PACKAGE / name).read_text()))
            for thing, with_what in wanted.items():
                self.assertEqual(found.get(thing), with_what, (name, thing))

    def test_each_method_is_defined_in_its_own_class(self):
        tree = ast.parse((PACKAGE / "texts.py").read_text())
        reader, = [node for node in tree.body
                   if isinstance(node, ast.ClassDef) and node.name == "Reader"]
        found = defined(reader)
        for name, wanted in METHODS.items():
            self.assertEqual(found.get(name), wanted, name)

    def test_files_import_only_from_the_package(self):
        for path, tree in sources():
            for node in ast.walk(tree):
                self.assertNotIsInstance(node, ast.Import, path.name)
                if isinstance(node, ast.ImportFrom):
                    self.assertEqual(node.level, 0, path.name)
                    self.assertTrue(node.module.startswith("precread."), (path.name, node.module))

    def test_no_builtin_that_reaches_outside_is_named(self):
        for path, tree in sources():
            for node in ast.walk(tree):
                if isinstance(node, ast.Name):
                    self.assertNotIn(node.id, BARRED, path.name)

    def test_no_function_changes_what_stands_at_module_level(self):
        for path, tree in sources():
            for node in ast.walk(tree):
                self.assertNotIsInstance(node, ast.Global, path.name)


if __name__ == "__main__":
    unittest.main()
