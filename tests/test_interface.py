"""The names and arguments of the interface, as they stand there."""

import unittest
from importlib import import_module
from inspect import isfunction, signature

CLASSES = {
    "errors": {"LateError": "(row=None)", "NoState": "(row=None)", "NoWish": "(row=None)", "NoText": "(row=None)",
               "TooGreat": "(row=None)"},
    "worlds": {"World": "()", "Rule": "(world, start)", "Bound": "(world, start)"},
    "hire": {"Hire": "(whole)", "Buyer": "(whole)"},
    "line": {"Line": "(many)", "Both": "(start)", "Nearest": "(start)"},
    "shelf": {"Shelf": "(things)", "Front": "(start)"},
    "ways": {"Ways": "(many, toll)", "Changer": "(many, toll, start=0)"},
    "stores": {"Store": "(many)", "Keeper": "(pages)"},
    "bags": {"Bags": "(room)", "Filler": "(room)"},
}
FUNCTIONS = {
    "least": {"table": "(world, start, wishes)", "best": "(world, start, wishes)",
              "way_price": "(world, start, wishes, way)"},
    "enemies": {"enemy_of_both": "(k, gap, many)", "enemy_of_nearest": "(gap, many)", "enemy_of_front": "(m, many)",
                "enemy_of_buyer": "(whole)", "enemy_of_changer": "(n, toll, many)", "enemy_of_keeper": "(k, many)",
                "enemy_of_filler": "(room, many)"},
    "games": {"read_game": "(text)", "rule_of": "(word, start)", "world_start": "(word, start)"},
    "reports": {"report": "(text)"},
}
WORLD_METHODS = {"is_state": "(self, thing)", "is_wish": "(self, thing)", "price": "(self, before, wish, after)",
                 "moves": "(self, before, wish)"}
RULE_METHODS = {"state": "(self)", "pay": "(self, wish)", "paid": "(self)"}
BOUND_METHODS = {"factor": "(self)", "parts": "(self, other)", "height": "(self, other)"}
OWN_METHODS = {("ways", "Changer"): "numbers", ("stores", "Keeper"): "pages", ("bags", "Filler"): "loads"}


def found_in(module, name):
    return getattr(import_module("lateknow." + module), name)


class InterfaceTest(unittest.TestCase):
    def test_classes(self):
        for module, names in CLASSES.items():
            for name, arguments in names.items():
                kind = found_in(module, name)
                self.assertIsInstance(kind, type)
                self.assertEqual(kind.__module__, "lateknow." + module)
                self.assertEqual(str(signature(kind)), arguments, name)

    def test_functions(self):
        for module, names in FUNCTIONS.items():
            for name, arguments in names.items():
                self.assertTrue(isfunction(found_in(module, name)))
                self.assertEqual(found_in(module, name).__module__, "lateknow." + module)
                self.assertEqual(str(signature(found_in(module, name))), arguments, name)

    def check_methods(self, kind, methods):
        for name, arguments in methods.items():
            self.assertEqual(str(signature(getattr(kind, name))), arguments, (kind, name))

    def test_methods(self):
        world, rule, bound = (found_in("worlds", name) for name in ("World", "Rule", "Bound"))
        for module, names in CLASSES.items():
            for kind in [found_in(module, name) for name in names]:
                if issubclass(kind, world):
                    self.check_methods(kind, WORLD_METHODS)
                if issubclass(kind, rule):
                    self.check_methods(kind, RULE_METHODS)
                if issubclass(kind, bound):
                    self.check_methods(kind, BOUND_METHODS)
        for (module, name), method in OWN_METHODS.items():
            self.assertEqual(str(signature(getattr(found_in(module, name), method))), "(self)")


if __name__ == "__main__":
    unittest.main()
