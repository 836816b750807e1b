"""The interface: each name is defined in the file under which it is listed, each method in its class itself."""

import importlib
import inspect
import unittest

FUNCTIONS = {
    "copies": {"kept": "(copy)", "order": "(copy)", "meeting": "(one, other)", "carriers": "(pairs)"},
    "drawings": {"common": "(one, other)", "within": "(one, other)", "alike": "(one, other)", "measure": "(drawing)",
                 "area": "(stroke)"},
    "arms": {"trace": "(arm, drawing)"},
    "chains": {"zones": "(chain)", "reachable_spots": "(chain, limit)", "needed_reach": "(chain, drawing)",
               "can_draw": "(chain, drawing)", "single": "(chain)"},
    "repeats": {"repeated_ink": "(copy, drawing, times)", "first_within": "(copy, drawing, goal, times)"},
    "likeness": {"ways": "(one, other)", "symmetries": "(drawing)"},
    "webs": {"pieces": "(drawing)", "regions": "(drawing)", "least_strokes": "(drawing)"},
    "boxes": {"rows_for": "(box, copy)", "copy_count": "(box)", "needless_arms": "(box)",
              "drawable_rows": "(box, drawing)", "row_to_draw": "(box, drawing, goal)"},
    "poles": {"poles": "(turn, pairs, *, mirrored=False)"},
    "notation": {"format_drawing": "(drawing)", "parse_drawing": "(text)", "picture": "(drawing, limit)"},
    "codes": {"encode": "(drawing)", "decode": "(items)"},
}
CLASSES = {
    ("copies", "Copy"): {
        "__init__": "(self, turn, shift, *, mirrored=False)", "__call__": "(self, spot)", "__rshift__": "(self, other)",
        "__invert__": "(self)", "__eq__": "(self, other)", "again": "(self, times)"},
    ("drawings", "Drawing"): {
        "__init__": "(self, *strokes)", "__len__": "(self)", "__getitem__": "(self, at)", "__add__": "(self, other)",
        "__eq__": "(self, other)", "ink": "(self)", "covers": "(self, spot)", "copied": "(self, copy)"},
    ("arms", "Arm"): {
        "__init__": "(self, pole, turn, near, far, *, mirrored=False)", "__eq__": "(self, other)",
        "reaches": "(self, spot)"},
    ("chains", "Chain"): {
        "__init__": "(self, *arms)", "__len__": "(self)", "__getitem__": "(self, at)", "__add__": "(self, other)",
        "__eq__": "(self, other)", "draw": "(self, drawing)", "source": "(self, drawing)"},
    ("guesses", "Guess"): {
        "__init__": "(self, box, most)", "see": "(self, spot, answer)", "see_all": "(self, *facts)",
        "answers": "(self, spot)", "best_spot": "(self, spots)"},
    ("scripts", "Script"): {
        "__init__": "(self, text)", "__len__": "(self)", "drawing": "(self, name)", "needs": "(self, name)",
        "needed_text": "(self, name)"},
    ("tables", "Table"): {
        "__init__": "(self, box)", "take": "(self, number)", "drop": "(self)", "draw": "(self, drawing)",
        "wipe": "(self)", "undo": "(self)", "redo": "(self)", "sheet": "(self)", "save": "(self, name)",
        "restore": "(self, name)", "batch": "(self, operations)"},
}
PROPERTIES = {
    ("copies", "Copy"): ("turn", "shift", "mirrored", "growth"),
    ("drawings", "Drawing"): ("strokes",),
    ("arms", "Arm"): ("pole", "turn", "near", "far", "mirrored", "effect"),
    ("chains", "Chain"): ("arms", "effect"),
    ("guesses", "Guess"): ("candidates", "history", "copies_left"),
    ("scripts", "Script"): ("text", "names", "arm_names"),
    ("tables", "Table"): ("arms_joined", "operations"),
}


def module(name):
    return importlib.import_module(f"copyarms.{name}")


class Interface(unittest.TestCase):
    def test_functions(self):
        for name, functions in FUNCTIONS.items():
            for function, parameters in functions.items():
                found = getattr(module(name), function)
                self.assertEqual(found.__module__, f"copyarms.{name}", function)
                self.assertEqual(str(inspect.signature(found)), parameters, function)

    def test_classes_and_methods(self):
        for (name, kind), methods in CLASSES.items():
            found = getattr(module(name), kind)
            self.assertEqual(found.__module__, f"copyarms.{name}", kind)
            for method, parameters in methods.items():
                self.assertEqual(str(inspect.signature(vars(found)[method])), parameters, (kind, method))

    def test_properties(self):
        for (name, kind), names in PROPERTIES.items():
            for attribute in names:
                self.assertIsInstance(vars(getattr(module(name), kind))[attribute], property, (kind, attribute))

    def test_the_class_method(self):
        found = vars(module("tables").Table)["replay"]
        self.assertIsInstance(found, classmethod)
        self.assertEqual(str(inspect.signature(found.__func__)), "(cls, box, operations)")
