"""The interface, heapwright/errors.py: HeapError and the fourteen refusals under it."""

import importlib
import itertools
import unittest

REFUSALS = (
    "Empty", "Twice", "NoTicket", "Higher", "NoCredit", "NoPlace", "NoKind",
    "NoName", "Taken", "TooMany", "NoHeap", "NoKey", "Itself", "Unlike",
)


def error(name):
    return getattr(importlib.import_module("heapwright.errors"), name)


class ErrorsTest(unittest.TestCase):
    def test_all_are_importable_classes_of_this_module(self):
        self.assertEqual(len(REFUSALS), 14)
        for name in ("HeapError",) + REFUSALS:
            with self.subTest(name):
                self.assertIsInstance(error(name), type)
                self.assertEqual(error(name).__name__, name)
                self.assertEqual(error(name).__module__, "heapwright.errors")

    def test_heap_error_stands_under_value_error(self):
        self.assertTrue(issubclass(error("HeapError"), ValueError))
        self.assertIsNot(error("HeapError"), ValueError)

    def test_each_refusal_stands_under_heap_error(self):
        for name in REFUSALS:
            with self.subTest(name):
                self.assertTrue(issubclass(error(name), error("HeapError")))
                self.assertIsNot(error(name), error("HeapError"))

    def test_none_stands_under_another_one(self):
        for name, other in itertools.permutations(REFUSALS, 2):
            with self.subTest(name, other=other):
                self.assertFalse(issubclass(error(name), error(other)))

    def test_each_is_raised_with_and_without_words_and_caught(self):
        for name in ("HeapError",) + REFUSALS:
            for caught in (name, "HeapError"):
                with self.subTest(name, caught=caught):
                    with self.assertRaises(error(caught)):
                        raise error(name)("why")
                    with self.assertRaises(error(caught)):
                        raise error(name)()


if __name__ == "__main__":
    unittest.main()
