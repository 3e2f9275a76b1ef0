"""The package as a whole: its interface stands where the document lists it, its code is plain."""

import ast
import unittest
from pathlib import Path

PACKAGE = Path(__file__).resolve().parent.parent / "oneline"

# For each file the names that it defines, with the methods that a class defines itself.
INTERFACE = {
    "errors": {"LineError": (), "NoDeed": (), "BadHead": ()},
    "signs": {"text_numbers": (), "text_at": ()},
    "frames": {"framed": (), "Frame": (), "Cutter": ("fed",)},
    "shelves": {"Shelf": ("put",)},
    "heads": {"told_head": (), "read_head": ()},
    "ends": {"End": ("begin", "answer", "say", "grant", "reset", "ask_rank", "leave", "next_frame", "hear", "left",
                     "waiting")},
}


def sources():
    return sorted(PACKAGE.rglob("*.py"))


def tree_of(path):
    return ast.parse(path.read_text(encoding="utf-8"))


def defined(body):
    """The functions and classes that a body defines, by name."""
    return {node.name: node for node in body if isinstance(node, (ast.FunctionDef, ast.ClassDef))}


class InterfaceTest(unittest.TestCase):

    def test_each_name_is_defined_in_its_file(self):
        for file, names in INTERFACE.items():
            found = defined(tree_of(PACKAGE / f"{file}.py").body)
            for name, methods in names.items():
                with self.subTest(file=file, name=name):
                    self.assertIn(name, found)
                    for method in methods:
                        self.assertIn(method, defined(found[name].body))


class PlainCodeTest(unittest.TestCase):

    def test_the_folder_holds_only_python_files(self):
        others = [path for path in PACKAGE.rglob("*")
                  if path.is_file() and path.suffix != ".py" and "__pycache__" not in path.parts]
        self.assertEqual(others, [])

    def test_sizes_and_characters(self):
        for path in sources():
            text = path.read_text(encoding="utf-8")
            with self.subTest(path=path.name):
                self.assertTrue(all(sign == "\n" or " " <= sign <= "~" for sign in text))
                self.assertLessEqual(len(text.splitlines()), 399)
                self.assertLessEqual(max(len(line) for line in text.splitlines()), 120)

    def test_functions_are_short(self):
        for path in sources():
            for node in ast.walk(tree_of(path)):
                if isinstance(node, ast.FunctionDef):
                    with self.subTest(path=path.name, function=node.name):
                        self.assertLessEqual(node.end_lineno - node.lineno + 1, 40)

    def test_imports_name_files_of_the_package(self):
        for path in sources():
            for node in ast.walk(tree_of(path)):
                self.assertNotIsInstance(node, ast.Import)
                if isinstance(node, ast.ImportFrom):
                    with self.subTest(path=path.name, module=node.module):
                        self.assertEqual(node.level, 0)
                        self.assertTrue(node.module.startswith("oneline."))

    def test_strings_have_no_percent_sign(self):
        for path in sources():
            for node in ast.walk(tree_of(path)):
                if isinstance(node, ast.Constant) and isinstance(node.value, str):
                    self.assertNotIn("%", node.value)


if __name__ == "__main__":
    unittest.main()
