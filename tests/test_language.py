"""The rules of LANGUAGE.md that a reader of the source can check by machine."""

import ast
import builtins
import os
import re
import unittest

PACKAGE = os.path.join(os.path.dirname(os.path.dirname(os.path.abspath(__file__))), "tautrounds")
BUILTINS = (
    "len range enumerate zip min max sum abs sorted reversed int str bool list tuple dict set isinstance ord repr "
    "any all divmod type Exception ValueError TypeError KeyError IndexError"
).split()
METHODS = (
    "append clear copy count endswith extend find get index insert items join keys pop remove replace reverse "
    "setdefault split startswith strip update values add discard lower bit_length"
).split()
STATEMENTS = (
    ast.Assign, ast.AugAssign, ast.If, ast.While, ast.For, ast.Return, ast.Break, ast.Continue, ast.Pass, ast.Raise,
    ast.Expr, ast.FunctionDef, ast.ClassDef, ast.ImportFrom, ast.Try,
)
# Errors of the package may be caught around calls of its own functions; no others are.
CAUGHT = ("RoundError", "BadText")
DOUBLE = ("__init__", "__eq__")
WORDS = re.compile(
    r"\b(typing|enum|Enum|namedtuple|NamedTuple|TypedDict|ABC|abstractmethod|Protocol|Generic|Flag)\b"
    r"|dataclass|overload|contextmanager|_wall|_WallAttr"
)
UNUSED = (
    "mro elements open input law register dir eval exec exit gc globals help importlib locals os quit super vars sys"
).split()


def sources():
    found = {}
    for name in sorted(os.listdir(PACKAGE)):
        if name != "__pycache__":
            with open(os.path.join(PACKAGE, name), encoding="utf-8") as source:
                found[name] = source.read()
    return found


def functions(tree):
    return [node for node in ast.walk(tree) if isinstance(node, ast.FunctionDef)]


def bound_in(function):
    """The parameters and local variables of a function, those of comprehensions and lambdas too."""
    names = [node.arg for node in ast.walk(function) if isinstance(node, ast.arg)]
    for node in ast.walk(function):
        if isinstance(node, ast.Name) and isinstance(node.ctx, ast.Store):
            names.append(node.id)
        if isinstance(node, ast.ExceptHandler) and node.name is not None:
            names.append(node.name)
    return names


def is_plain_value(node):
    """Whether it is a literal, a dict, or a number told by literals: 10 ** 60, (1 << 256) - 1."""
    if isinstance(node, ast.BinOp):
        return is_plain_value(node.left) and is_plain_value(node.right)
    return isinstance(node, (ast.Constant, ast.Dict))


def is_plain_power(node):
    return isinstance(node.right, ast.Constant) and 0 <= node.right.value <= 64


def imports_of(tree):
    return {node.module: [part.name for part in node.names] for node in tree.body if isinstance(node, ast.ImportFrom)}


class LanguageTest(unittest.TestCase):
    def setUp(self):
        self.texts = sources()
        self.trees = {name: ast.parse(text) for name, text in self.texts.items()}

    def test_files(self):
        for name, text in self.texts.items():
            self.assertRegex(name, r"^(__init__|[a-z]+)\.py$")
            self.assertNotIn(name[:-3], dir(builtins))
            self.assertTrue(text.isascii() and "\t" not in text and "\r" not in text, name)
            rows = text.split("\n")
            self.assertLessEqual(len(rows), 399, name)
            self.assertLessEqual(max(map(len, rows)), 120, name)
            for function in functions(self.trees[name]):
                self.assertLessEqual(function.end_lineno - function.lineno + 1, 40, function.name)

    def test_imports(self):
        needs = {}
        for name, tree in self.trees.items():
            found = imports_of(tree)
            needs["tautrounds." + name[:-3]] = list(found)
            used = {node.id for node in ast.walk(tree) if isinstance(node, ast.Name)}
            for module, names in found.items():
                self.assertRegex(module, r"^tautrounds\.[a-z]+$")
                other = self.trees[module.split(".")[1] + ".py"]
                defined = [node.name for node in other.body if isinstance(node, (ast.FunctionDef, ast.ClassDef))]
                defined += [node.targets[0].id for node in other.body if isinstance(node, ast.Assign)]
                for one in names:
                    self.assertIn(one, defined, name)
                    self.assertIn(one, used, name)
        while needs:
            free = [module for module in needs if not any(other in needs for other in needs[module])]
            self.assertTrue(free, "files import from each other")
            needs = {module: needs[module] for module in needs if module not in free}

    def test_statements(self):
        for name, tree in self.trees.items():
            for node in ast.walk(tree):
                if isinstance(node, ast.stmt):
                    self.assertIsInstance(node, STATEMENTS, name)
                if isinstance(node, ast.Try):
                    self.assertEqual((len(node.handlers), node.orelse, node.finalbody), (1, [], []), name)
                    self.assertIn(node.handlers[0].type.id, CAUGHT)
                    self.assertIn(node.handlers[0].name, (None, "error"))
            for node in tree.body:
                if isinstance(node, ast.Assign):
                    self.assertTrue(is_plain_value(node.value), name)
                    self.assertEqual(len(node.targets), 1)
                elif isinstance(node, ast.Expr):
                    self.assertIsInstance(node.value, ast.Constant)

    def test_functions_and_classes(self):
        for name, tree in self.trees.items():
            for node in ast.walk(tree):
                if isinstance(node, (ast.FunctionDef, ast.ClassDef)):
                    self.assertEqual(node.decorator_list, [], name)
                    self.assertTrue(ast.get_docstring(node) or node.name in DOUBLE, node.name)
                if isinstance(node, ast.FunctionDef) and node.name.startswith("__"):
                    self.assertIn(node.name, DOUBLE)
            self.assertIsNotNone(ast.get_docstring(tree))

    def test_names(self):
        for name, tree in self.trees.items():
            taken = [node.name for node in tree.body if isinstance(node, ast.ClassDef)]
            taken += [part for names in imports_of(tree).values() for part in names]
            own = taken + [node.name for node in tree.body if isinstance(node, ast.FunctionDef)]
            own += [node.targets[0].id for node in tree.body if isinstance(node, ast.Assign)]
            self.assertEqual(len(own), len(set(own)), name)
            for function in functions(tree):
                for local in bound_in(function) + [function.name]:
                    self.assertNotIn(local, taken, name)
                    self.assertNotIn(local, UNUSED, name)
                    self.assertTrue(local in DOUBLE or local not in dir(builtins), (name, local))
                for node in ast.walk(function):
                    if isinstance(node, ast.Name) and isinstance(node.ctx, ast.Load):
                        known = node.id in own or node.id in bound_in(function) or node.id in BUILTINS
                        self.assertTrue(known or node.id == "self", (name, node.id))
                        self.assertNotEqual(node.id, "_", name)

    def test_calls(self):
        for name, tree in self.trees.items():
            methods = [node.name for node in functions(tree)] + METHODS
            for other in self.trees.values():
                methods += [node.name for part in other.body if isinstance(part, ast.ClassDef) for node in part.body
                            if isinstance(node, ast.FunctionDef)]
            for node in ast.walk(tree):
                if isinstance(node, ast.Call) and isinstance(node.func, ast.Attribute):
                    self.assertIn(node.func.attr, methods, name)
                if isinstance(node, ast.Call) and isinstance(node.func, ast.Name) and node.func.id in dir(builtins):
                    named = [word.arg for word in node.keywords]
                    self.assertTrue(all(word in ("key", "reverse", "default", "start") for word in named), name)

    def test_what_does_not_occur(self):
        # A class of the package has __eq__: so any, all, min and the like take lists, and no list has .sort().
        bad = (
            ast.GeneratorExp, ast.Starred, ast.Lambda, ast.JoinedStr, ast.NamedExpr, ast.Await, ast.Yield,
            ast.YieldFrom, ast.Div, ast.AnnAssign,
        )
        for name, tree in self.trees.items():
            text = self.texts[name]
            self.assertIsNone(WORDS.search(text), name)
            self.assertNotIn(".sort(", text)
            for node in ast.walk(tree):
                if not isinstance(node, ast.Lambda) or name != "best.py":
                    self.assertNotIsInstance(node, bad, name)
                if isinstance(node, ast.BinOp) and isinstance(node.op, ast.Pow):
                    self.assertTrue(is_plain_power(node), name)
                if isinstance(node, ast.Constant):
                    self.assertNotIsInstance(node.value, float)
                    self.assertFalse(isinstance(node.value, str) and "%" in node.value)
                if isinstance(node, ast.Compare):
                    for sign, side in zip(node.ops, node.comparators):
                        if isinstance(sign, (ast.Is, ast.IsNot)):
                            is_kind = isinstance(node.left, ast.Call) and getattr(node.left.func, "id", "") == "type"
                            self.assertTrue(is_kind or isinstance(side, ast.Constant), name)


if __name__ == "__main__":
    unittest.main()
