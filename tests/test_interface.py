"""The interface in DOC.md: each name so far is importable from its module, with its arguments."""

import importlib
import inspect
import unittest

FUNCTIONS = {
    "heapwright.items": {"is_key": ["thing"], "is_item": ["thing"]},
    "heapwright.shapes": {
        "is_shape": ["kind", "thing"], "nothing": ["kind"], "items_of": ["kind", "shape"], "least": ["kind", "shape"],
    },
    "heapwright.deeds": {
        "put": ["kind", "shape", "item"], "joined": ["kind", "one", "other"],
        "lowered": ["kind", "shape", "ticket", "key"], "dropped": ["kind", "shape", "ticket"],
        "taken": ["kind", "shape"],
    },
    "heapwright.paid": {
        "held": ["kind", "shape"], "credit": ["kind", "deed", "n", "*m=0"], "far_join": ["kind", "k"],
        "far_put": ["k"], "far_take": ["k"], "far_lower": ["k"],
    },
    "heapwright.soft": {
        "is_soft": ["thing"], "soft_put": ["shape", "item", "*slack=4"], "soft_joined": ["one", "other", "*slack=4"],
        "soft_taken": ["shape", "*slack=4"], "soft_items": ["shape"], "slipped": ["shape"],
        "may_slip": ["n", "*slack=4"],
    },
    "heapwright.picking": {"picked": ["items", "number"]},
    "heapwright.webs": {
        "is_web": ["thing"], "roads": ["web", "start", "*kind='cut'"],
        "is_paper": ["web", "start", "lengths", "order"], "cheapest": ["web", "*kind='pair'"],
    },
    "heapwright.codes": {"codes": ["counts", "*kind='left'"]},
}
METHODS = {
    "make": ["name", "kind"], "put": ["name", "key"], "join": ["name", "other"], "take": ["name"],
    "lower": ["ticket", "key"], "drop": ["ticket"], "sink": ["name"], "names": [], "kind": ["name"],
    "shape": ["name"], "items": ["name"], "least": ["name"], "home": ["ticket"], "ledger": [], "__len__": [],
}
VALUES = {"heapwright.items": ["KINDS"]}
CLASSES = {
    "heapwright.errors": [
        "HeapError", "Empty", "Twice", "NoTicket", "Higher", "NoCredit", "NoPlace", "NoKind", "NoName", "Taken",
        "TooMany", "NoHeap", "NoKey", "Itself", "Unlike",
    ],
    "heapwright.yards": ["Yard"],
}


def argument(parameter):
    """A parameter as it is told above; those behind a star have one, and the value that they have where left out."""
    if parameter.kind == parameter.KEYWORD_ONLY:
        return f"*{parameter.name}={parameter.default!r}"
    return parameter.name if parameter.default == parameter.empty else f"{parameter.name}={parameter.default!r}"


class InterfaceTest(unittest.TestCase):
    def test_functions_stand_in_their_modules_and_take_their_arguments(self):
        for module, functions in FUNCTIONS.items():
            for name, arguments in functions.items():
                with self.subTest(module, name=name):
                    function = getattr(importlib.import_module(module), name)
                    self.assertEqual(function.__module__, module)
                    told = [argument(parameter) for parameter in inspect.signature(function).parameters.values()]
                    self.assertEqual(told, arguments)

    def test_values_and_classes_stand_in_their_modules(self):
        for module, names in (*VALUES.items(), *CLASSES.items()):
            for name in names:
                with self.subTest(module, name=name):
                    self.assertTrue(hasattr(importlib.import_module(module), name))
        for module, names in CLASSES.items():
            for name in names:
                self.assertTrue(inspect.isclass(getattr(importlib.import_module(module), name)))

    def test_the_methods_of_a_yard_stand_in_its_own_body(self):
        yard = importlib.import_module("heapwright.yards").Yard
        for name, arguments in METHODS.items():
            with self.subTest(name):
                self.assertIn(name, vars(yard))
                told = [argument(parameter) for parameter in inspect.signature(vars(yard)[name]).parameters.values()]
                self.assertEqual(told, ["self"] + arguments)
        self.assertEqual(list(inspect.signature(yard).parameters), [])

    def test_the_other_modules_are_importable(self):
        for module in ("heapwright.ranks", "heapwright.sides", "heapwright.ties", "heapwright.tallies"):
            self.assertTrue(inspect.ismodule(importlib.import_module(module)))


if __name__ == "__main__":
    unittest.main()
