"""What can be seen simply of the rules for the files of the package (L1, L2, L5, L6, L10, L14)."""

import ast
import os
import unittest

import callbells

FOLDER = os.path.dirname(os.path.abspath(callbells.__file__))
LIBRARY = ("heapq", "math", "itertools", "collections", "__future__")
# Double-underscore methods that may change things; all others are bound by L5 Operators.
FREE = ("__init__", "__enter__", "__exit__", "__call__", "__iter__")
BUILTIN_VALUES = (0, "", b"", [], (), {}, {0})


def files():
    """The names and texts of the files of the package."""
    told = []
    for name in sorted(os.listdir(FOLDER)):
        if name != "__pycache__":
            with open(os.path.join(FOLDER, name), encoding="utf-8") as file:
                told.append((name, file.read()))
    return told


def definitions():
    """The functions and methods of the package and its classes, as (file, class or None, node)."""
    rows = []
    for name, text in files():
        for node in ast.parse(text).body:
            if isinstance(node, ast.ClassDef):
                rows.extend((name, node, below) for below in node.body if isinstance(below, ast.FunctionDef))
            elif isinstance(node, ast.FunctionDef):
                rows.append((name, None, node))
    return rows


def is_bound(node):
    """Whether a method is an operator, a property, or bound as they are."""
    if any(isinstance(mark, ast.Name) and mark.id == "property" for mark in node.decorator_list):
        return True
    return node.name.startswith("__") and node.name not in FREE


def locals_of(node):
    """The names of the parameters and variables of a function."""
    names = [arg.arg for below in ast.walk(node) if isinstance(below, ast.arguments) for arg in [
        *below.posonlyargs, *below.args, *below.kwonlyargs, *[one for one in (below.vararg, below.kwarg) if one]]]
    stored = [below.id for below in ast.walk(node) if isinstance(below, ast.Name) and isinstance(below.ctx, ast.Store)]
    return {*names, *stored}


def is_none_test(test):
    """Whether a test asks names and attributes by `is None` and `is not None` alone."""
    if isinstance(test, ast.BoolOp):
        return all(is_none_test(value) for value in test.values)
    if isinstance(test, ast.UnaryOp):
        return isinstance(test.op, ast.Not) and is_none_test(test.operand)
    if not isinstance(test, ast.Compare) or len(test.ops) != 1 or not isinstance(test.left, (ast.Name, ast.Attribute)):
        return False
    right = test.comparators[0]
    return isinstance(test.ops[0], (ast.Is, ast.IsNot)) and isinstance(right, ast.Constant) and right.value is None


class LanguageTest(unittest.TestCase):
    def test_files(self):
        names = [name for name, _ in files()]
        self.assertIn("__init__.py", names)
        for name in names:
            self.assertRegex(name, r"^[a-z0-9_]+\.py$")

    def test_characters_and_lengths(self):
        for name, text in files():
            with self.subTest(name=name):
                self.assertTrue(all(c == "\n" or " " <= c <= "~" for c in text))
                self.assertLessEqual(text.count("\n"), 399)
                self.assertLessEqual(max(len(row) for row in text.split("\n")), 120)

    def test_functions(self):
        for name, text in files():
            for node in ast.walk(ast.parse(text)):
                if isinstance(node, ast.FunctionDef):
                    with self.subTest(name=name, function=node.name):
                        self.assertLessEqual(node.end_lineno - node.lineno + 1, 40)

    def test_imports(self):
        for name, text in files():
            for node in ast.walk(ast.parse(text)):
                self.assertNotIsInstance(node, (ast.Import, ast.Global))
                if isinstance(node, ast.ImportFrom):
                    self.assertIn(node.module.split(".")[0], ("callbells",) + LIBRARY, name)

    def test_exits_ask_for_none_alone(self):
        exits = [(name, node) for name, _, node in definitions() if node.name == "__exit__"]
        self.assertEqual([name for name, _ in exits], ["desk.py"])
        for name, node in exits:
            for below in ast.walk(node):
                self.assertNotIsInstance(below, (ast.Call, ast.IfExp, ast.While, ast.For), name)
                if isinstance(below, ast.If):
                    with self.subTest(name=name, row=below.lineno):
                        self.assertTrue(is_none_test(below.test))

    def test_operators_call_by_own_names(self):
        # By names alone, so this follows more than what an operator or a property does call.
        by_name = {}
        for name, holder, node in definitions():
            is_made = holder is not None and node.name == "__init__"
            by_name.setdefault(holder.name if is_made else node.name, []).append((name, node))
        left = [(name, node) for name, _, node in definitions() if is_bound(node)]
        met = []
        while left:
            name, node = left.pop()
            if node not in met:
                met.append(node)
                for call in [below for below in ast.walk(node) if isinstance(below, ast.Call)]:
                    with self.subTest(name=name, function=node.name, row=call.lineno):
                        left.extend(by_name.get(self.called(call, node), []))
        reached = [node.name for node in met]
        for name in ("__sub__", "check_setup", "spoilt_line", "spoilt_work", "is_step", "text", "ring_fate"):
            self.assertIn(name, reached)

    def called(self, call, node):
        """The name by which a function calls what is no parameter, variable, item or result of its own."""
        if isinstance(call.func, ast.Attribute):
            methods = [below.name for _, holder, below in definitions() if holder is not None]
            is_method = any(hasattr(value, call.func.attr) for value in BUILTIN_VALUES)
            self.assertTrue(is_method or call.func.attr in methods)
            return call.func.attr
        self.assertIsInstance(call.func, ast.Name)
        self.assertNotIn(call.func.id, locals_of(node))
        return call.func.id


if __name__ == "__main__":
    unittest.main()
