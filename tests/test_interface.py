"""The interface: each name is defined in its file, with its parameters, and each method in its class."""

import importlib
import inspect
import unittest

FUNCTIONS = {
    "shifts": {"combination": "sums target", "is_combination": "sums target value", "separation": "space target",
               "is_separation": "space target value", "moved": "target shift"},
    "runs": {"run": "plan world", "wants": "plan", "breaking_world": "plan position"},
    "watches": {"heard": "plan watch", "view": "plan watch", "learned": "plan watch", "learns": "plan watch target",
                "reason": "plan watch target", "hiding_shift": "plan watch target",
                "is_reason": "plan watch target value", "is_hiding_shift": "plan watch target value",
                "same_frequencies": "plan watch numbers others"},
    "groups": {"listening": "plan group", "least_groups": "plan target", "blind_groups": "plan target"},
    "covers": {"fewest_seats": "plan seats target", "cover": "plan seats target many",
               "is_cover": "plan seats target many value"},
}
SPACE_METHODS = {"__init__": "self modulus sums", "basis": "self", "names": "self", "reduced": "self target",
                 "joined": "self other", "shared": "self other", "within": "self other", "without": "self names",
                 "__contains__": None, "__eq__": None, "__repr__": None}
CLASSES = {
    ("sums", "Sum"): {"__init__": "self modulus weights constant", "of": "cls modulus weights",
                      "parse": "cls modulus text", "weights": "self", "names": "self", "weight": "self name",
                      "at": "self world", "put": "self sums", "__add__": None, "__sub__": None, "__neg__": None,
                      "__mul__": None, "__eq__": None, "__str__": None, "__repr__": None},
    ("spaces", "Space"): {**SPACE_METHODS, "everything": "cls modulus names"},
    ("spaces", "Relations"): {**SPACE_METHODS, "spanned": "self"},
    ("plans", "Plan"): {"__init__": "self modulus hands steps", "hands": "self", "steps": "self", "names": "self",
                        "own_names": "self", "drawn_names": "self", "told_names": "self", "meaning": "self name",
                        "held": "self hand moment", "holders": "self name moment", "extended": "self steps",
                        "__len__": None, "__eq__": None, "__repr__": None},
}
PROPERTIES = {("sums", "Sum"): "modulus constant is_constant", ("spaces", "Space"): "modulus dimension",
              ("spaces", "Relations"): "modulus dimension", ("plans", "Plan"): "modulus"}


def parameters(function):
    return " ".join(inspect.signature(function).parameters)


class Interface(unittest.TestCase):
    def test_functions(self):
        for file, functions in FUNCTIONS.items():
            module = importlib.import_module("quietsums." + file)
            for name, wanted in functions.items():
                function = getattr(module, name)
                self.assertEqual(function.__module__, module.__name__)
                self.assertEqual(parameters(function), wanted, name)

    def test_classes(self):
        for (file, name), methods in CLASSES.items():
            found = getattr(importlib.import_module("quietsums." + file), name)
            self.assertEqual(found.__module__, "quietsums." + file)
            for method, wanted in methods.items():
                self.assertIn(method, vars(found), name)
                body = vars(found)[method]
                if isinstance(body, classmethod):
                    body = body.__func__
                if wanted is not None:
                    self.assertEqual(parameters(body), wanted, (name, method))
            for word in PROPERTIES[(file, name)].split():
                self.assertIsInstance(vars(found)[word], property)

    def test_bases(self):
        spaces = importlib.import_module("quietsums.spaces")
        self.assertEqual(spaces.Spanned.__bases__, (object,))
        self.assertEqual(spaces.Space.__bases__, (spaces.Spanned,))
        self.assertEqual(spaces.Relations.__bases__, (spaces.Spanned,))


if __name__ == "__main__":
    unittest.main()
