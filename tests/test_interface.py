"""The interface in DOC.md: each name so far is importable from its module, with its arguments."""

import importlib
import inspect
import unittest

FUNCTIONS = {
    "heapwright.items": {"is_key": ["thing"], "is_item": ["thing"]},
    "heapwright.shapes": {
        "is_shape": ["kind", "thing"], "nothing": ["kind"], "items_of": ["kind", "shape"], "least": ["kind", "shape"],
    },
}
VALUES = {"heapwright.items": ["KINDS"]}
CLASSES = {
    "heapwright.errors": [
        "HeapError", "Empty", "Twice", "NoTicket", "Higher", "NoCredit", "NoPlace", "NoKind", "NoName", "Taken",
        "TooMany", "NoHeap", "NoKey", "Itself", "Unlike",
    ],
}


class InterfaceTest(unittest.TestCase):
    def test_functions_stand_in_their_modules_and_take_their_arguments_by_place(self):
        for module, functions in FUNCTIONS.items():
            for name, arguments in functions.items():
                with self.subTest(module, name=name):
                    function = getattr(importlib.import_module(module), name)
                    self.assertEqual(function.__module__, module)
                    self.assertEqual(list(inspect.signature(function).parameters), arguments)

    def test_values_and_classes_stand_in_their_modules(self):
        for module, names in (*VALUES.items(), *CLASSES.items()):
            for name in names:
                with self.subTest(module, name=name):
                    self.assertTrue(hasattr(importlib.import_module(module), name))
        for name in CLASSES["heapwright.errors"]:
            self.assertTrue(inspect.isclass(getattr(importlib.import_module("heapwright.errors"), name)))

    def test_the_modules_of_trees_are_importable(self):
        for module in ("heapwright.sides", "heapwright.ties"):
            self.assertTrue(inspect.ismodule(importlib.import_module(module)))


if __name__ == "__main__":
    unittest.main()
