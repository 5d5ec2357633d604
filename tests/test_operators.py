"""What operators, properties and lengths run modifies nothing but what it has created (L5, L28)."""

import ast
import unittest

from tests.test_language import CLASSES, NODES, TREES

PURE = set("""__or__ __and__ __sub__ __add__ __xor__ __invert__ __contains__ __getitem__ __eq__ __str__ __repr__ __len__
""".split())
CHANGING = set("append extend insert pop remove clear update setdefault reverse sort add discard".split())
MAKING = {"list", "dict", "set", "sorted"}


def functions():
    """All functions and methods by name, each with its class or None."""
    found = {}
    for tree in TREES.values():
        for node in tree.body:
            if isinstance(node, ast.FunctionDef):
                found.setdefault(node.name, []).append((None, node))
            if isinstance(node, ast.ClassDef):
                for part in node.body:
                    if isinstance(part, ast.FunctionDef):
                        found.setdefault(part.name, []).append((node.name, part))
    return found


FUNCTIONS = functions()


def is_property(node):
    return any(isinstance(mark, ast.Name) and mark.id == "property" for mark in node.decorator_list)


def is_super(node):
    return isinstance(node, ast.Call) and getattr(node.func, "id", None) == "super"


def called(node):
    """The functions that a function may call, found by their names."""
    found = []
    for part in ast.walk(node):
        if not isinstance(part, ast.Call):
            continue
        if isinstance(part.func, ast.Name) and part.func.id in CLASSES:
            found.extend(entry for entry in FUNCTIONS.get("__init__", []) if entry[0] == part.func.id)
        elif isinstance(part.func, ast.Name):
            found.extend(entry for entry in FUNCTIONS.get(part.func.id, []) if entry[0] is None)
        elif isinstance(part.func, ast.Attribute) and not is_super(part.func.value) and part.func.attr not in CHANGING:
            found.extend(entry for entry in FUNCTIONS.get(part.func.attr, []) if entry[0] is not None)
    return found


def run_by_operators():
    left = [entry for name, entries in FUNCTIONS.items() for entry in entries if name in PURE or is_property(entry[1])]
    found = []
    while left:
        entry = left.pop()
        if entry not in found:
            found.append(entry)
            left.extend(called(entry[1]))
    return found


def is_new(value):
    """Whether an expression creates a list, dict or set."""
    if isinstance(value, ast.Call):
        return getattr(value.func, "id", None) in MAKING
    if isinstance(value, ast.BinOp):
        return is_new(value.left) and is_new(value.right)
    return isinstance(value, (ast.List, ast.Dict, ast.ListComp, ast.DictComp))


def created(node):
    """The local variables to which a function assigns nothing but what it creates."""
    values = {}
    for part in ast.walk(node):
        if isinstance(part, ast.Assign):
            for target in part.targets:
                if isinstance(target, ast.Name):
                    values.setdefault(target.id, []).append(part.value)
    return {name for name, given in values.items() if all(is_new(value) for value in given)}


class TestOperators(unittest.TestCase):
    def test_they_are_found(self):
        names = {node.name for _, node in run_by_operators()}
        self.assertLessEqual({"__or__", "accepts", "_least_form", "_pairs_of", "depth", "room", "trace"}, names)

    def test_no_generators(self):
        for _, node in run_by_operators():
            if node.name != "__iter__":
                self.assertFalse([part for part in ast.walk(node) if isinstance(part, (ast.Yield, ast.YieldFrom))],
                                 node.name)

    def test_attributes_and_sums(self):
        for _, node in run_by_operators():
            for part in ast.walk(node):
                if isinstance(part, ast.Attribute) and isinstance(part.ctx, ast.Store):
                    self.assertEqual((node.name, part.value.id), ("__init__", "self"))
                if isinstance(part, ast.AugAssign):
                    self.assertIsInstance(part.target, ast.Name, node.name)
                    self.assertIsInstance(getattr(part.value, "value", None), int, node.name)

    def test_only_what_was_created_is_modified(self):
        for _, node in run_by_operators():
            own = created(node)
            for part in ast.walk(node):
                if isinstance(part, ast.Subscript) and isinstance(part.ctx, ast.Store):
                    self.assertIn(getattr(part.value, "id", None), own, node.name)
                if isinstance(part, ast.Call) and isinstance(part.func, ast.Attribute) and part.func.attr in CHANGING:
                    self.assertIn(getattr(part.func.value, "id", None), own, node.name)

    def test_lengths(self):
        for _, node in FUNCTIONS["__len__"]:
            value = node.body[-1].value
            self.assertEqual((isinstance(value, ast.Call), getattr(value.func, "id", None)), (True, "len"))

    def test_nothing_else_is_called_by_name(self):
        for _, node in run_by_operators():
            params = [part.arg for part in ast.walk(node) if isinstance(part, ast.arg)]
            calls = [part for part in ast.walk(node) if isinstance(part, ast.Call) and isinstance(part.func, ast.Name)]
            self.assertFalse([part for part in calls if part.func.id in params], node.name)

    def test_every_file_is_looked_at(self):
        self.assertEqual({stem for stem, _ in NODES}, set(TREES))


if __name__ == "__main__":
    unittest.main()
