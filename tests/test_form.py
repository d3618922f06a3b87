"""The interface stands as told, and the files keep to the form of the program."""

import ast
import importlib
import inspect
import os
import unittest

PACKAGE = os.path.join(os.path.dirname(os.path.dirname(os.path.abspath(__file__))), "eventloom")

FUNCTIONS = {
    "eventloom.words": {"is_whole": ["thing"], "is_word": ["thing"], "need_word": ["thing"]},
    "eventloom.handlers": {
        "is_deed": ["thing"], "is_handler": ["thing"], "need_handlers": ["handlers"],
        "need_names": ["handlers", "names"], "hearers": ["handlers", "names", "word"],
    },
    "eventloom.tale": {"begun": ["log"], "inside": ["log"], "turns": ["log"], "drawn": ["log", "events"]},
}
CLASSES = {
    "eventloom.errors": ["LoomError", "NoWord", "NoHandler", "Twice", "Stranger", "NoCount"],
    "eventloom.waits": ["Waits"],
    "eventloom.loom": ["Loom"],
}
METHODS = {
    ("eventloom.waits", "Waits"): {
        "__init__": ["self"], "sooner": ["self", "number"], "later": ["self", "number", "due"], "lineup": ["self"],
        "lead": ["self"], "drop": ["self", "numbers"],
    },
    ("eventloom.loom", "Loom"): {
        "__init__": ["self", "handlers", "names"], "send": ["self", "word"], "step": ["self"], "run": ["self", "most"],
        "waiting": ["self"], "around": ["self"], "standing": ["self"], "idle": ["self"],
    },
}
LIBRARY = {"heapq": ["heapify", "heappop", "heappush"], "collections": ["deque"]}


def files():
    return sorted(name for name in os.listdir(PACKAGE) if name != "__pycache__")


def source(name):
    with open(os.path.join(PACKAGE, name), encoding="utf-8") as file:
        return file.read()


class TestInterface(unittest.TestCase):
    def test_functions_stand_in_their_files(self):
        for module, functions in FUNCTIONS.items():
            for name, arguments in functions.items():
                function = getattr(importlib.import_module(module), name)
                self.assertEqual(function.__module__, module, name)
                self.assertEqual(list(inspect.signature(function).parameters), arguments, name)

    def test_methods_stand_in_their_classes(self):
        for (module, name), methods in METHODS.items():
            body = vars(getattr(importlib.import_module(module), name))
            for method, arguments in methods.items():
                self.assertEqual(list(inspect.signature(body[method]).parameters), arguments, (name, method))

    def test_classes_stand_in_their_files(self):
        for module, classes in CLASSES.items():
            for name in classes:
                self.assertEqual(getattr(importlib.import_module(module), name).__module__, module, name)


class TestForm(unittest.TestCase):
    def test_the_package_holds_python_files_alone(self):
        self.assertIn("__init__.py", files())
        for name in files():
            self.assertTrue(name.endswith(".py"), name)

    def test_sizes_and_signs(self):
        for name in files():
            text = source(name)
            self.assertLessEqual(len(text.splitlines()), 399, name)
            for line in text.split("\n"):
                self.assertLessEqual(len(line), 120, (name, line))
                self.assertTrue(all(" " <= sign <= "~" for sign in line), (name, line))
            for node in ast.walk(ast.parse(text)):
                if isinstance(node, ast.FunctionDef):
                    self.assertLessEqual(node.end_lineno - node.lineno + 1, 40, (name, node.name))

    def test_imports_come_from_the_package_or_the_told_library(self):
        for name in files():
            for node in ast.walk(ast.parse(source(name))):
                self.assertNotIsInstance(node, ast.Import, name)
                if isinstance(node, ast.ImportFrom):
                    self.assertEqual(node.level, 0, name)
                    if node.module in LIBRARY:
                        self.assertLessEqual(set(told.name for told in node.names), set(LIBRARY[node.module]), name)
                    else:
                        self.assertEqual(node.module.split(".")[0], "eventloom", name)


if __name__ == "__main__":
    unittest.main()
