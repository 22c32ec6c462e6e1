"""markpause.errors: HeapError, and the eight refusals under it."""

import unittest

from markpause import errors

NAMES = ["NoHand", "NoSlot", "NoRoom", "NothingHeld", "NoBox", "NoWork", "NoHeap", "NoDeed"]


def kinds():
    return [getattr(errors, name) for name in NAMES]


class TheClasses(unittest.TestCase):
    def test_a_heap_error_is_a_value_error(self):
        self.assertEqual(errors.HeapError.__bases__, (ValueError,))

    def test_the_base_of_each_is_heap_error_itself(self):
        for kind in kinds():
            with self.subTest(kind=kind.__name__):
                self.assertEqual(kind.__bases__, (errors.HeapError,))

    def test_none_is_under_another_one(self):
        for kind in kinds():
            above = [other for other in kinds() if issubclass(kind, other)]
            self.assertEqual(above, [kind])

    def test_each_is_a_class_of_its_own_under_its_name(self):
        for name in ["HeapError", *NAMES]:
            kind = getattr(errors, name)
            self.assertEqual((kind.__module__, kind.__name__), ("markpause.errors", name))

    def test_no_other_errors_stand_in_the_file(self):
        there = [name for name, value in vars(errors).items() if isinstance(value, type)]
        self.assertEqual(sorted(there), sorted(["HeapError", *NAMES]))


class RaisingAndCatching(unittest.TestCase):
    def test_each_is_caught_as_itself_as_a_heap_error_and_as_a_value_error(self):
        for kind in [errors.HeapError, *kinds()]:
            for caught_as in (kind, errors.HeapError, ValueError):
                with self.subTest(kind=kind.__name__, caught_as=caught_as.__name__):
                    with self.assertRaises(caught_as) as bare:
                        raise kind
                    with self.assertRaises(caught_as) as empty:
                        raise kind()
                    with self.assertRaises(caught_as) as worded:
                        raise kind("hand 9 is not there")
                    for got in (bare, empty, worded):
                        self.assertIs(type(got.exception), kind)
                    self.assertEqual(str(bare.exception), "")
                    self.assertEqual(str(empty.exception), "")
                    self.assertEqual(str(worded.exception), "hand 9 is not there")

    def test_none_is_caught_as_another_one(self):
        for kind in kinds():
            others = tuple(other for other in kinds() if other is not kind)
            with self.subTest(kind=kind.__name__):
                try:
                    raise kind("words")
                except others:
                    self.fail("caught as another refusal")
                except errors.HeapError as why:
                    self.assertIs(type(why), kind)

    def test_a_plain_heap_error_is_none_of_the_eight(self):
        for kind in kinds():
            self.assertNotIsInstance(errors.HeapError("words"), kind)

    def test_another_value_error_is_no_heap_error(self):
        self.assertNotIsInstance(ValueError("words"), errors.HeapError)


if __name__ == "__main__":
    unittest.main()
