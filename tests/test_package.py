"""The form of the package's files, as far as a plain look can tell, and the listed interface."""

import ast
import pathlib
import unittest

from markpause.heap import Heap
from markpause.notes import read, told
from markpause.playing import played

PACKAGE = pathlib.Path(__file__).resolve().parent.parent / "markpause"


def sources():
    return sorted(PACKAGE.rglob("*.py"))


class TheForm(unittest.TestCase):
    def test_the_folder_holds_python_files_only(self):
        self.assertTrue((PACKAGE / "__init__.py").is_file())
        for path in PACKAGE.rglob("*"):
            if "__pycache__" not in path.parts:
                self.assertTrue(path.is_dir() or path.suffix == ".py", path)

    def test_no_test_stands_in_the_package(self):
        for path in PACKAGE.rglob("*"):
            self.assertFalse(path.name.startswith("test"), path)

    def test_characters_and_lengths(self):
        for path in sources():
            lines = path.read_bytes().split(b"\n")
            self.assertEqual(lines.pop(), b"", path)
            self.assertLessEqual(len(lines), 399, path)
            for number, line in enumerate(lines, start=1):
                self.assertLessEqual(len(line), 120, (path, number))
                self.assertTrue(all(32 <= sign <= 126 for sign in line), (path, number))

    def test_functions_are_small(self):
        for path in sources():
            for node in ast.walk(ast.parse(path.read_text())):
                if isinstance(node, ast.FunctionDef):
                    self.assertLessEqual(node.end_lineno - node.lineno + 1, 40, (path, node.name))

    def test_nothing_is_imported_from_outside(self):
        # So neither a clock nor chance nor files can be come by, but for what is built in.
        for path in sources():
            for node in ast.walk(ast.parse(path.read_text())):
                self.assertNotIsInstance(node, ast.Import, path)
                if isinstance(node, ast.ImportFrom):
                    self.assertTrue(node.module.startswith("markpause."), (path, node.module))
                if isinstance(node, ast.Name):
                    self.assertNotIn(node.id, ("open", "print", "input", "__import__", "id", "hash"), path)


class TheInterface(unittest.TestCase):
    """Names and arguments as DOC.md lists them, in the files and in the class that it names."""

    CLASSES = {
        "errors": {name: {} for name in ("HeapError", "NoHand", "NoSlot", "NoRoom", "NothingHeld",
                                         "NoBox", "NoWork", "NoHeap", "NoDeed")},
        "heap": {"Heap": {
            "__init__": ["self", "hands", "room"],
            "make": ["self", "hand", "slots"],
            "take": ["self", "hand", "other", "slot"],
            "put": ["self", "hand", "slot", "other"],
            "share": ["self", "hand", "other"],
            "drop": ["self", "hand"],
            "held": ["self", "hand"],
            "look": ["self", "box"],
            "boxes": ["self"],
            "work": ["self", "pieces"],
            "phase": ["self"],
            "marked": ["self"],
            "waiting": ["self"],
            "rounds": ["self"],
        }},
    }
    FUNCTIONS = {
        "reaching": {"reach": ["rows", "starts"]},
        "notes": {"told": ["deed"], "read": ["line"]},
        "playing": {"played": ["hands", "room", "lines"]},
    }

    def defined(self, name, kind, within=None):
        """What is defined right in a file, or right in a class, by its name."""
        body = within or ast.parse((PACKAGE / f"{name}.py").read_text()).body
        return {node.name: node for node in body if isinstance(node, kind)}

    def arguments(self, function):
        listed = function.args
        self.assertEqual((listed.posonlyargs, listed.kwonlyargs, listed.vararg, listed.kwarg, listed.defaults),
                         ([], [], None, None, []))
        return [one.arg for one in listed.args]

    def test_classes_and_their_methods(self):
        for name, classes in self.CLASSES.items():
            defined = self.defined(name, ast.ClassDef)
            for one, methods in classes.items():
                self.assertIn(one, defined)
                there = self.defined(name, ast.FunctionDef, within=defined[one].body)
                self.assertEqual({method: self.arguments(there[method]) for method in methods}, methods)

    def test_functions(self):
        for name, functions in self.FUNCTIONS.items():
            defined = self.defined(name, ast.FunctionDef)
            for one, wanted in functions.items():
                self.assertEqual(self.arguments(defined[one]), wanted)

    def test_arguments_by_name(self):
        heap = Heap(room=9, hands=2)
        self.assertEqual(heap.make(slots=2, hand=0), 0)
        self.assertEqual(heap.make(slots=0, hand=1), 1)
        self.assertIsNone(heap.put(other=1, slot=1, hand=0))
        self.assertIsNone(heap.take(slot=0, other=0, hand=1))
        self.assertEqual((heap.held(hand=0), heap.held(hand=1), heap.look(box=0)), (0, None, [None, 1]))
        self.assertIsNone(heap.share(other=0, hand=1))
        self.assertEqual(heap.held(hand=1), 0)
        self.assertIsNone(heap.drop(hand=0))
        self.assertEqual(heap.work(pieces=5), [])
        self.assertEqual(read(line=told(deed=("drop", 0))), ("drop", 0))
        self.assertEqual(played(lines=["work 0"], room=1, hands=1), ["freed none"])

    def test_kinds_of_values(self):
        heap = Heap(2, 9)
        self.assertIs(type(heap.make(0, 1)), int)
        self.assertIs(type(heap.held(0)), int)
        for gave in (heap.look(0), heap.boxes(), heap.work(1), heap.marked(), heap.waiting(), played(1, 1, [])):
            self.assertIs(type(gave), list)
        self.assertEqual((type(heap.phase()), type(heap.rounds())), (str, int))
        self.assertEqual([type(answer) for answer in played(1, 1, ["drop 0", ""])], [str, str])
        self.assertIs(type(told(("drop", 0))), str)


if __name__ == "__main__":
    unittest.main()
