"""The interface: every name in its module, its arguments by their places, each method in its class itself."""

import importlib
import inspect
import unittest

FUNCTIONS = {
    "streets": ("steps(one, other)",),
    "ends": ("is_ends(thing)", "is_joining(many, thing)"),
    "joinings": ("chain(many, joining, knot)", "beneath(many, joining, knot)", "meeting(many, joining, one, other)"),
    "texts": ("show_wires(ends, joining)", "show_tree(tree)", "read_wires(thing)", "read_tree(thing)"),
    "boxes": ("spot_of(grain, x, y)", "far(spot, other)", "grown(box, by)", "met(box, other)", "apart(box, other)",
              "nearest(box, spot)", "corner(box)", "has(box, spot)"),
    "rows": ("wanted(ends, one, other)", "row_of(ends, some)", "joined(one, other)", "rows_of(ends, joining)"),
    "trees": ("tree_holds(ends, joining, gap, thing)", "wire_of(lengths)", "reaches(ends, joining, grain, lengths)",
              "gap_of(ends, joining, grain, lengths)", "detours(joining, tree)"),
    "even": ("even_wire(ends, joining)", "even_tree(ends, joining, root=None)"),
    "pairs": ("pairs_for(ends, joining)", "pairs_shown(ends, joining, thing)"),
    "fitting": ("fits(ends, joining, grain, lengths)", "boxes_by(ends, joining, grain, lengths)",
                "laid(ends, joining, grain, lengths, root=None)"),
    "free": ("free_wire(ends, joining)", "free_tree(ends, joining)"),
    "least": ("least(ends, joining, gap)",),
    "times": ("times_shown(ends, joining, gap, thing)",),
    "loads": ("loads_of(ends, joining)", "borne(ends, joining, lengths)"),
    "found": ("nearest_joining(ends)", "halved_joining(ends)"),
    "best": ("best_joining(ends)",),
    "tables": ("table_shown(ends, thing)",),
    "layers": ("layers_for(ends)", "layers_shown(ends, thing)"),
}

METHODS = {
    ("groves", "Grove"): (
        "come(self, name, x, y, start, load, beside=None, above=0)", "go(self, name)", "names(self)", "now(self)",
        "row(self, name, above)", "load(self, name, above)", "reckoned(self)"),
    ("desk", "Desk"): ("say(self, text)",),
}

ERRORS = ("NoText", "NoPlace", "NoEnd", "Twice", "Full", "TooMany", "NoRow", "NoFit")


def module(name):
    return importlib.import_module(f"evenwires.{name}")


class Interface(unittest.TestCase):

    def test_functions(self):
        for name, rows in FUNCTIONS.items():
            for row in rows:
                word = row.partition("(")[0]
                function = getattr(module(name), word)
                self.assertEqual(f"{word}{inspect.signature(function)}", row)
                self.assertEqual(function.__module__, f"evenwires.{name}")

    def test_classes(self):
        for (name, word), rows in METHODS.items():
            found = getattr(module(name), word)
            self.assertEqual(found.__module__, f"evenwires.{name}")
            # Made without arguments.
            self.assertIsInstance(found(), found)
            for row in rows:
                method = row.partition("(")[0]
                self.assertIn(method, vars(found), (word, method))
                self.assertEqual(f"{method}{inspect.signature(vars(found)[method])}", row)

    def test_errors(self):
        errors = module("errors")
        found = [getattr(errors, name) for name in ERRORS]
        for error in found:
            self.assertTrue(issubclass(error, errors.WireError))
            self.assertEqual([other for other in found if issubclass(error, other)], [error])
        self.assertTrue(issubclass(errors.WireError, ValueError))


if __name__ == "__main__":
    unittest.main()
