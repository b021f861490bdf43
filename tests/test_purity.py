"""What operators and properties run changes nothing but what it made itself, and calls nothing that it was passed."""

import ast
import unittest

from test_language import nodes, trees

CHANGING = set("append clear extend insert pop remove reverse setdefault update add discard sort".split())
MAKERS = {"list", "dict", "set", "sorted"}
OTHER_METHODS = {"__init__", "__call__", "__iter__", "__enter__", "__exit__"}


def functions():
    """All functions and methods by their names; the `__init__` of a class by the name of the class."""
    found = {}
    for name, tree in trees():
        for node in tree.body:
            if isinstance(node, ast.FunctionDef):
                found.setdefault(node.name, []).append(node)
            if isinstance(node, ast.ClassDef):
                for method in node.body:
                    if isinstance(method, ast.FunctionDef):
                        key = node.name if method.name == "__init__" else method.name
                        found.setdefault(key, []).append(method)
    return found


def roots():
    """All operators and properties."""
    found = []
    for name, node in nodes(ast.FunctionDef):
        is_operator = node.name.startswith("__") and node.name not in OTHER_METHODS
        if is_operator or any(isinstance(word, ast.Name) and word.id == "property" for word in node.decorator_list):
            found.append(node)
    return found


def called_name(call):
    return call.func.attr if isinstance(call.func, ast.Attribute) else call.func.id


def reached():
    """All functions that operators and properties run, as far as names tell."""
    known = functions()
    found = roots()
    for function in found:
        for node in ast.walk(function):
            if isinstance(node, ast.Call):
                found += [other for other in known.get(called_name(node), []) if other not in found]
    return found


def made_names(function):
    """The local variables that are assigned nothing but what the function makes itself, and those that hold objects."""
    values = {}
    for node in ast.walk(function):
        if isinstance(node, ast.Assign):
            for target in node.targets:
                if isinstance(target, ast.Name):
                    values.setdefault(target.id, []).append(node.value)
    parameters = {arg.arg for arg in function.args.args + function.args.kwonlyargs}
    made = {name for name in values if name not in parameters and all(is_made(value) for value in values[name])}
    objects = {name for name in values if len(values[name]) == 1 and is_object(values[name][0])}
    return made, objects


def is_made(value):
    if isinstance(value, ast.Call):
        return isinstance(value.func, ast.Name) and value.func.id in MAKERS
    return isinstance(value, (ast.List, ast.Dict, ast.ListComp, ast.DictComp, ast.SetComp))


def is_object(value):
    return isinstance(value, ast.Call) and isinstance(value.func, ast.Name) and value.func.id[:1].isupper()


def base_of(node):
    while isinstance(node, ast.Subscript):
        node = node.value
    return node.id if isinstance(node, ast.Name) else None


class Purity(unittest.TestCase):
    def test_something_is_reached(self):
        names = {function.name for function in reached()}
        self.assertLessEqual({"folded", "spread", "_merged", "__add__", "most", "is_limit"}, names)

    def test_changes_only_what_it_made(self):
        for function in reached():
            made, objects = made_names(function)
            for node in ast.walk(function):
                told = function.name, node.lineno if hasattr(node, "lineno") else None
                if isinstance(node, ast.AugAssign):
                    self.assertIsInstance(node.target, ast.Name, told)
                    self.assertIsInstance(node.value, ast.Constant, told)
                for target in node.targets if isinstance(node, (ast.Assign, ast.Delete)) else []:
                    if isinstance(target, ast.Subscript):
                        self.assertIn(base_of(target), made, told)
                    if isinstance(target, ast.Attribute):
                        own = {"self"} if function.name == "__init__" else set()
                        self.assertIn(target.value.id, objects | own, told)
                if isinstance(node, ast.Call) and isinstance(node.func, ast.Attribute) and node.func.attr in CHANGING:
                    self.assertIn(base_of(node.func.value), made, told)

    def test_calls_nothing_that_it_is_passed_or_holds(self):
        known = functions()
        classes = {node.name for name, node in nodes(ast.ClassDef)}
        builtin = set("len int str sorted list dict set tuple min max sum abs all any isinstance ord iter range "
                      "enumerate zip reversed".split())
        for function in reached():
            self.assertFalse([node for node in ast.walk(function) if isinstance(node, (ast.Lambda, ast.Yield))])
            for node in ast.walk(function):
                if isinstance(node, ast.Call):
                    self.assertNotIsInstance(node.func, ast.Subscript, function.name)
                    if isinstance(node.func, ast.Name):
                        self.assertTrue(node.func.id in set(known) | classes | builtin, (function.name, node.func.id))


if __name__ == "__main__":
    unittest.main()
