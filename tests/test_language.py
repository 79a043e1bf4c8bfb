"""The files of the package keep the rules of LANGUAGE.md that can be seen in their code one by one."""

import ast
import builtins
import os
import unittest

FOLDER = os.path.join(os.path.dirname(os.path.dirname(os.path.abspath(__file__))), "quietsums")
BUILTINS = set("""len range enumerate zip min max sum abs sorted reversed int str bool list tuple dict set isinstance ord
repr any all divmod ValueError LookupError RuntimeError super""".split())
METHODS = set("""append clear copy count endswith extend find get index insert isalnum isalpha isdigit islower isspace
isupper items join keys ljust lower lstrip partition pop remove replace reverse rfind rjust rpartition rsplit rstrip
setdefault split splitlines startswith strip update upper values zfill bit_length""".split())
DUNDERS = set("""__init__ __eq__ __repr__ __str__ __len__ __add__ __sub__ __mul__ __neg__ __contains__""".split())
DECORATORS = ("property", "classmethod", "staticmethod")
BARRED = set("""register mro elements open input law version_info with_traceback add_note type typing enum Enum Flag
Generic Protocol ABC eval exec compile globals locals vars dir id help _record _cold""".split())
STATEMENTS = (ast.Assign, ast.AugAssign, ast.Try, ast.If, ast.While, ast.For, ast.Return, ast.Break, ast.Continue, ast.Pass,
              ast.Raise, ast.Expr, ast.FunctionDef, ast.ClassDef, ast.ImportFrom)
SIMPLE = (ast.Constant, ast.Tuple, ast.List, ast.Dict)
# What neither the rules nor this program need: each of them is allowed in narrow cases only.
ABSENT = (ast.GeneratorExp, ast.Lambda, ast.NamedExpr, ast.Await, ast.YieldFrom, ast.Div, ast.MatMult,
          ast.Pow)
AT_ONCE = ("zip", "enumerate", "reversed", "items", "keys", "values")


def files():
    """Return a dict from the names of the files to their texts."""
    found = {}
    for name in sorted(os.listdir(FOLDER)):
        if name != "__pycache__":
            with open(os.path.join(FOLDER, name), encoding="utf-8") as file:
                found[name] = file.read()
    return found


def called_name(node):
    """Return the name of what a node calls, if it is a call."""
    if not isinstance(node, ast.Call):
        return None
    return node.func.id if isinstance(node.func, ast.Name) else getattr(node.func, "attr", None)


class Language(unittest.TestCase):
    def setUp(self):
        self.texts = files()
        self.trees = {name: ast.parse(text) for name, text in self.texts.items()}
        self.nodes = [(name, node) for name, tree in self.trees.items() for node in ast.walk(tree)]
        self.functions = [(name, node) for name, node in self.nodes if isinstance(node, ast.FunctionDef)]
        self.own = {node.name for _, node in self.nodes if isinstance(node, (ast.FunctionDef, ast.ClassDef))}

    def test_files(self):
        for name, text in self.texts.items():
            self.assertRegex(name, r"\A([a-z][a-z0-9_]*|__init__)\.py\Z")
            self.assertTrue(all(sign == "\n" or " " <= sign <= "~" for sign in text), name)
            self.assertLessEqual(text.count("\n"), 399, name)
            self.assertLessEqual(max(map(len, text.split("\n"))), 120, name)
        for name, node in self.functions:
            self.assertLessEqual(node.end_lineno - node.lineno + 1, 40, (name, node.name))

    def test_imports(self):
        for name, node in self.nodes:
            self.assertNotIsInstance(node, ast.Import, name)
            if isinstance(node, ast.ImportFrom):
                self.assertRegex(node.module, r"\Aquietsums\.[a-z]+\Z")
                inside = {item.name for item in self.trees[node.module.split(".")[1] + ".py"].body
                          if isinstance(item, (ast.FunctionDef, ast.ClassDef))}
                inside |= {item.targets[0].id for item in self.trees[node.module.split(".")[1] + ".py"].body
                           if isinstance(item, ast.Assign)}
                for item in node.names:
                    self.assertIn(item.name, inside)
                    self.assertIsNone(item.asname)

    def test_imports_are_used(self):
        for name, tree in self.trees.items():
            used = {node.id for node in ast.walk(tree) if isinstance(node, ast.Name)}
            for node in tree.body:
                for item in node.names if isinstance(node, ast.ImportFrom) else ():
                    self.assertIn(item.name, used, name)

    def test_module_level(self):
        for name, tree in self.trees.items():
            for at, node in enumerate(tree.body):
                if isinstance(node, ast.Assign):
                    self.assertIsInstance(node.value, SIMPLE, name)
                    self.assertEqual([type(target) for target in node.targets], [ast.Name])
                elif isinstance(node, ast.Expr):
                    self.assertEqual([at, type(node.value)], [0, ast.Constant], name)
                else:
                    self.assertIsInstance(node, (ast.ImportFrom, ast.FunctionDef, ast.ClassDef), name)

    def test_tables_are_only_read(self):
        for name, tree in self.trees.items():
            tables = {node.targets[0].id for node in tree.body
                      if isinstance(node, ast.Assign) and isinstance(node.value, (ast.Dict, ast.List))}
            parents = {child: node for node in ast.walk(tree) for child in ast.iter_child_nodes(node)}
            for node in ast.walk(tree):
                if isinstance(node, ast.Name) and node.id in tables and isinstance(node.ctx, ast.Load):
                    self.assertIsInstance(parents[node], (ast.Compare, ast.Subscript, ast.Attribute), (name, node.lineno))

    def test_classes(self):
        for name, node in self.nodes:
            if isinstance(node, ast.ClassDef):
                self.assertEqual(node.decorator_list, [])
                for item in node.body:
                    self.assertIsInstance(item, (ast.FunctionDef, ast.Expr), name)
        for name, node in self.functions:
            if node.name.startswith("__"):
                self.assertIn(node.name, DUNDERS, name)
                self.assertFalse(any(isinstance(inner, ast.Yield) for inner in ast.walk(node)), name)
            for decorator in node.decorator_list:
                self.assertIn(decorator.id, DECORATORS, name)

    def test_statements_and_expressions(self):
        for name, node in self.nodes:
            if isinstance(node, ast.stmt):
                self.assertIsInstance(node, STATEMENTS, (name, node.lineno))
            self.assertNotIsInstance(node, ABSENT, (name, getattr(node, "lineno", None)))
            if isinstance(node, ast.Constant):
                self.assertNotIsInstance(node.value, (float, complex, bytes), name)
                if isinstance(node.value, str):
                    self.assertNotIn("%", node.value)
            if isinstance(node, ast.Raise):
                self.assertIsInstance(node.exc, ast.Call)
                self.assertIsInstance(node.exc.func, ast.Name)
            if isinstance(node, ast.Compare):
                for sign, right in zip(node.ops, node.comparators):
                    if isinstance(sign, (ast.Is, ast.IsNot)):
                        self.assertIsInstance(right, ast.Constant)
            if isinstance(node, ast.arg):
                self.assertIsNone(node.annotation)

    def test_errors_that_are_caught_are_own_ones(self):
        for name, node in self.nodes:
            if isinstance(node, ast.Try):
                self.assertEqual([node.finalbody, len(node.handlers)], [[], 1], (name, node.lineno))
                caught = node.handlers[0].type
                for error in caught.elts if isinstance(caught, ast.Tuple) else [caught]:
                    self.assertIn(error.id, self.own, (name, node.lineno))

    def test_generators_are_iterated_at_once(self):
        names = {node.name for _, node in self.functions if any(isinstance(inner, ast.Yield) for inner in ast.walk(node))}
        self.assertEqual(sorted(node.name for _, node in self.functions if node.name in names), sorted(names))
        for name, tree in self.trees.items():
            iterated = [node.iter for node in ast.walk(tree) if isinstance(node, (ast.For, ast.comprehension))]
            for node in ast.walk(tree):
                if called_name(node) in names:
                    self.assertIn(node, iterated, (name, node.lineno))

    def test_calls(self):
        imported = {item.name for _, node in self.nodes if isinstance(node, ast.ImportFrom) for item in node.names}
        for name, node in self.nodes:
            if isinstance(node, ast.Call) and isinstance(node.func, ast.Name):
                self.assertIn(node.func.id, BUILTINS | self.own | imported | {"cls"}, (name, node.lineno))
                if node.func.id in ("any", "all", "min", "max", "sum"):
                    self.assertNotIsInstance(node.args[0], ast.GeneratorExp)
            elif isinstance(node, ast.Call):
                self.assertIn(node.func.attr, METHODS | self.own, (name, node.lineno))

    def test_stars(self):
        for name, node in self.nodes:
            if isinstance(node, ast.Call):
                for item in node.args:
                    if isinstance(item, ast.Starred):
                        self.assertIsInstance(item.value, (ast.Name, ast.Attribute), (name, node.lineno))

    def test_files_import_in_one_direction(self):
        below = {name[:-3]: {node.module.split(".")[1] for node in tree.body if isinstance(node, ast.ImportFrom)}
                 for name, tree in self.trees.items()}
        while below:
            free = [name for name, others in below.items() if not others & set(below)]
            self.assertNotEqual(free, [], below)
            below = {name: others for name, others in below.items() if name not in free}

    def test_names(self):
        for name, tree in self.trees.items():
            fixed = {item.name for node in tree.body if isinstance(node, ast.ImportFrom) for item in node.names}
            fixed |= {node.name for node in tree.body if isinstance(node, ast.ClassDef)}
            bound = {node.id for node in ast.walk(tree) if isinstance(node, ast.Name) and isinstance(node.ctx, ast.Store)}
            bound |= {node.arg for node in ast.walk(tree) if isinstance(node, ast.arg)}
            self.assertEqual(bound & fixed, set(), name)
            self.assertEqual((bound | fixed | self.own) & set(dir(builtins)), set(), name)
            self.assertEqual((bound | self.own) & BARRED, set(), name)
            for word in bound | {node.attr for node in ast.walk(tree) if isinstance(node, ast.Attribute)}:
                self.assertFalse(word.startswith("__") and word not in DUNDERS, (name, word))

    def test_sets_are_not_iterated_or_kept(self):
        for name, tree in self.trees.items():
            parents = {child: node for node in ast.walk(tree) for child in ast.iter_child_nodes(node)}
            for node in ast.walk(tree):
                if isinstance(node, (ast.Set, ast.SetComp)) or called_name(node) == "set":
                    above = parents[node]
                    while isinstance(above, ast.BinOp):
                        above = parents[above]
                    self.assertIn(called_name(above), ("sorted", "len"), (name, node.lineno))

    def test_iterated_at_once(self):
        for name, tree in self.trees.items():
            parents = {child: node for node in ast.walk(tree) for child in ast.iter_child_nodes(node)}
            for node in ast.walk(tree):
                if called_name(node) in AT_ONCE:
                    above = parents[node]
                    good = isinstance(above, (ast.For, ast.comprehension)) and above.iter is node
                    good = good or called_name(above) in ("list", "tuple", "dict", "sorted", "sum")
                    self.assertTrue(good, (name, node.lineno))


if __name__ == "__main__":
    unittest.main()
