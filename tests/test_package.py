"""The form of the package's files: what of ../shared/LANGUAGE.md a plain look can tell."""

import ast
import pathlib
import unittest

PACKAGE = pathlib.Path(__file__).resolve().parent.parent / "markpause"


def sources():
    return sorted(PACKAGE.rglob("*.py"))


class TheForm(unittest.TestCase):
    def test_the_folder_holds_python_files_only(self):
        self.assertTrue((PACKAGE / "__init__.py").is_file())
        for path in PACKAGE.rglob("*"):
            if "__pycache__" not in path.parts:
                self.assertTrue(path.is_dir() or path.suffix == ".py", path)

    def test_no_test_stands_in_the_package(self):
        for path in PACKAGE.rglob("*"):
            self.assertFalse(path.name.startswith("test"), path)

    def test_characters_and_lengths(self):
        for path in sources():
            lines = path.read_bytes().split(b"\n")
            self.assertEqual(lines.pop(), b"", path)
            self.assertLessEqual(len(lines), 399, path)
            for number, line in enumerate(lines, start=1):
                self.assertLessEqual(len(line), 120, (path, number))
                self.assertTrue(all(32 <= sign <= 126 for sign in line), (path, number))

    def test_functions_are_small(self):
        for path in sources():
            for node in ast.walk(ast.parse(path.read_text())):
                if isinstance(node, ast.FunctionDef):
                    self.assertLessEqual(node.end_lineno - node.lineno + 1, 40, (path, node.name))

    def test_the_interface_is_defined_in_its_files(self):
        listed = {
            "errors.py": ["HeapError", "NoHand", "NoSlot", "NoRoom", "NothingHeld",
                          "NoBox", "NoWork", "NoHeap", "NoDeed"],
            "reaching.py": ["reach"],
        }
        for name, wanted in listed.items():
            body = ast.parse((PACKAGE / name).read_text()).body
            defined = [node.name for node in body if isinstance(node, (ast.FunctionDef, ast.ClassDef))]
            for one in wanted:
                self.assertEqual(defined.count(one), 1, (name, one))


if __name__ == "__main__":
    unittest.main()
