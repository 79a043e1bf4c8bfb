"""The interface: each name is defined in its file, with its parameters, and each method in its class."""

import importlib
import inspect
import unittest

FUNCTIONS = {
    "shifts": {"combination": "sums target", "is_combination": "sums target value", "separation": "space target",
               "is_separation": "space target value", "moved": "target shift"},
    "runs": {"run": "plan world", "wants": "plan", "breaking_world": "plan position"},
    "watches": {"heard": "plan watch", "view": "plan watch", "learned": "plan watch", "learns": "plan watch target",
                "reason": "plan watch target", "hiding_shift": "plan watch target",
                "is_reason": "plan watch target value", "is_hiding_shift": "plan watch target value",
                "same_frequencies": "plan watch numbers others"},
    "groups": {"listening": "plan group", "least_groups": "plan target", "blind_groups": "plan target"},
    "covers": {"fewest_seats": "plan seats target", "cover": "plan seats target many",
               "is_cover": "plan seats target many value"},
    "books": {"first_leak": "plan book", "is_quiet": "plan book"},
    "trimming": {"needless_steps": "plan", "trimmed": "plan", "needless_draws": "plan book", "lean": "plan book"},
    "around": {"form_of": "part", "known_reason": "part group target", "known_shift": "part group target",
               "is_known_reason": "part group target value", "is_known_shift": "part group target value",
               "difference": "one other", "is_difference": "one other value", "may_stand": "one other bad good",
               "parting": "part other", "is_parting": "part other value", "hearing": "part group target",
               "using": "part target", "joined": "one other"},
    "gaining": {"gains": "ladder group", "either": "one other", "both": "one other"},
    "demands": {"least_ladder": "demands", "fulfils": "ladder demands"},
    "bars": {"bar": "demands group target", "is_bar": "demands group target value", "first_barred": "demands secrets",
             "cores": "demands group target", "keeping_sets": "demands secrets", "implied": "demands"},
    "making": {"size_of": "ladder", "dealt": "ladder", "made_from": "deal", "part_for": "ladder"},
    "drawers": {"drawing_bar": "ladder group", "made_by": "ladder group", "least_drawers": "ladder"},
    "mending": {"learned_of": "history watch", "public": "history", "tellable": "history group",
                "least_tellers": "history target", "loss": "history target", "is_loss": "history target value",
                "expressed": "history target", "hand_on": "history hand name target", "fewest_sittings": "history target"},
    "wrong": {"copy_of": "plan error hand name", "heard_of": "plan error name", "check": "plan error group",
              "explanation": "plan error group", "is_check": "plan error group value",
              "is_explanation": "plan error group value", "unnoticed": "plan positions group"},
    "trees": {"depth": "tree way numbers", "learned_on": "tree way group", "parting_way": "tree group numbers others",
              "tree_leak": "tree book"},
    "texts": {"plan_text": "plan", "part_text": "part", "demands_text": "demands", "read_plan": "text", "read_part": "text",
              "read_demands": "text"},
}
SPACE_METHODS = {"__init__": "self modulus sums", "basis": "self", "names": "self", "reduced": "self target",
                 "joined": "self other", "shared": "self other", "within": "self other", "without": "self names",
                 "__contains__": None, "__eq__": None, "__repr__": None}
CLASSES = {
    ("sums", "Sum"): {"__init__": "self modulus weights constant", "of": "cls modulus weights",
                      "parse": "cls modulus text", "weights": "self", "names": "self", "weight": "self name",
                      "at": "self world", "put": "self sums", "__add__": None, "__sub__": None, "__neg__": None,
                      "__mul__": None, "__eq__": None, "__str__": None, "__repr__": None},
    ("spaces", "Space"): {**SPACE_METHODS, "everything": "cls modulus names"},
    ("spaces", "Relations"): {**SPACE_METHODS, "spanned": "self"},
    ("plans", "Plan"): {"__init__": "self modulus hands steps", "hands": "self", "steps": "self", "names": "self",
                        "own_names": "self", "drawn_names": "self", "told_names": "self", "meaning": "self name",
                        "held": "self hand moment", "holders": "self name moment", "extended": "self steps",
                        "__len__": None, "__eq__": None, "__repr__": None},
    ("doors", "Doors"): {"__init__": "self modulus hands ins outs", "hands": "self", "ins": "self", "outs": "self",
                         "names": "self", "holders": "self name", "held": "self group", "groups": "self",
                         "__contains__": None, "__eq__": None, "__repr__": None},
    ("parts", "Part"): {"__init__": "self doors steps", "steps": "self", "names": "self", "meaning": "self name",
                        "held": "self hand moment", "told_names": "self", "seen": "self group",
                        "placed": "self hands ahead behind", "moments": "self hands ahead", "__len__": None,
                        "__eq__": None},
    ("ladders", "Ladder"): {"__init__": "self doors relations spaces", "space": "self group", "walk": "self",
                            "as_one": "self hands name", "__eq__": None, "__repr__": None},
    ("demands", "Demands"): {"__init__": "self doors relations must", "always": "self", "must": "self",
                             "and_also": "self must", "of": "cls ladder", "__eq__": None},
    ("deals", "Deal"): {"__init__": "self doors drawn numbers", "drawn": "self", "numbers": "self", "form": "self",
                        "__eq__": None},
    ("histories", "History"): {"__init__": "self modulus hands", "hands": "self", "names": "self", "own_names": "self",
                               "held": "self hand", "rounds": "self", "own": "self hand name", "put": "self ladder",
                               "drop": "self hand name", "stop": "self hand", "enter": "self hand", "copied": "self",
                               "__len__": None, "__eq__": None},
    ("trees", "Tree"): {"__init__": "self modulus hands node", "hands": "self", "ways": "self", "plan": "self way",
                        "__eq__": None},
    ("workshop", "Workshop"): {"__init__": "self modulus", "history": "self", "execute": "self command",
                               "execute_all": "self commands", "log": "self"},
}
PROPERTIES = {("sums", "Sum"): "modulus constant is_constant", ("spaces", "Space"): "modulus dimension",
              ("spaces", "Relations"): "modulus dimension", ("plans", "Plan"): "modulus",
              ("doors", "Doors"): "modulus", ("parts", "Part"): "doors", ("ladders", "Ladder"): "doors relations",
              ("demands", "Demands"): "doors", ("deals", "Deal"): "doors steps_needed",
              ("histories", "History"): "modulus", ("trees", "Tree"): "modulus", ("workshop", "Workshop"): ""}


def parameters(function):
    return " ".join(inspect.signature(function).parameters)


class Interface(unittest.TestCase):
    def test_functions(self):
        for file, functions in FUNCTIONS.items():
            module = importlib.import_module("quietsums." + file)
            for name, wanted in functions.items():
                function = getattr(module, name)
                self.assertEqual(function.__module__, module.__name__)
                self.assertEqual(parameters(function), wanted, name)

    def test_classes(self):
        for (file, name), methods in CLASSES.items():
            found = getattr(importlib.import_module("quietsums." + file), name)
            self.assertEqual(found.__module__, "quietsums." + file)
            for method, wanted in methods.items():
                self.assertIn(method, vars(found), name)
                body = vars(found)[method]
                if isinstance(body, classmethod):
                    body = body.__func__
                if wanted is not None:
                    self.assertEqual(parameters(body), wanted, (name, method))
            for word in PROPERTIES[(file, name)].split():
                self.assertIsInstance(vars(found)[word], property)

    def test_bases(self):
        spaces = importlib.import_module("quietsums.spaces")
        self.assertEqual(spaces.Spanned.__bases__, (object,))
        self.assertEqual(spaces.Space.__bases__, (spaces.Spanned,))
        self.assertEqual(spaces.Relations.__bases__, (spaces.Spanned,))


if __name__ == "__main__":
    unittest.main()
