"""The interface in DOC.md: each name so far is importable from its module, with its arguments."""

import importlib
import inspect
import unittest

FUNCTIONS = {
    "heapwright.items": {"is_key": ["thing"], "is_item": ["thing"]},
    "heapwright.shapes": {
        "is_shape": ["kind", "thing"], "nothing": ["kind"], "items_of": ["kind", "shape"], "least": ["kind", "shape"],
    },
    "heapwright.deeds": {
        "put": ["kind", "shape", "item"], "joined": ["kind", "one", "other"],
        "lowered": ["kind", "shape", "ticket", "key"], "dropped": ["kind", "shape", "ticket"],
        "taken": ["kind", "shape"],
    },
    "heapwright.paid": {
        "held": ["kind", "shape"], "credit": ["kind", "deed", "n", "*m=0"], "far_join": ["kind", "k"],
        "far_put": ["k"], "far_take": ["k"], "far_lower": ["k"],
    },
    "heapwright.soft": {
        "is_soft": ["thing"], "soft_put": ["shape", "item", "*slack=4"], "soft_joined": ["one", "other", "*slack=4"],
        "soft_taken": ["shape", "*slack=4"], "soft_items": ["shape"], "slipped": ["shape"],
        "may_slip": ["n", "*slack=4"],
    },
}
VALUES = {"heapwright.items": ["KINDS"]}
CLASSES = {
    "heapwright.errors": [
        "HeapError", "Empty", "Twice", "NoTicket", "Higher", "NoCredit", "NoPlace", "NoKind", "NoName", "Taken",
        "TooMany", "NoHeap", "NoKey", "Itself", "Unlike",
    ],
}


def argument(parameter):
    """A parameter as it is told above; those behind a star have one, and the value that they have where left out."""
    if parameter.kind == parameter.KEYWORD_ONLY:
        return f"*{parameter.name}={parameter.default!r}"
    return parameter.name if parameter.default == parameter.empty else f"{parameter.name}={parameter.default!r}"


class InterfaceTest(unittest.TestCase):
    def test_functions_stand_in_their_modules_and_take_their_arguments(self):
        for module, functions in FUNCTIONS.items():
            for name, arguments in functions.items():
                with self.subTest(module, name=name):
                    function = getattr(importlib.import_module(module), name)
                    self.assertEqual(function.__module__, module)
                    told = [argument(parameter) for parameter in inspect.signature(function).parameters.values()]
                    self.assertEqual(told, arguments)

    def test_values_and_classes_stand_in_their_modules(self):
        for module, names in (*VALUES.items(), *CLASSES.items()):
            for name in names:
                with self.subTest(module, name=name):
                    self.assertTrue(hasattr(importlib.import_module(module), name))
        for name in CLASSES["heapwright.errors"]:
            self.assertTrue(inspect.isclass(getattr(importlib.import_module("heapwright.errors"), name)))

    def test_the_modules_of_trees_are_importable(self):
        for module in ("heapwright.ranks", "heapwright.sides", "heapwright.ties"):
            self.assertTrue(inspect.ismodule(importlib.import_module(module)))


if __name__ == "__main__":
    unittest.main()
