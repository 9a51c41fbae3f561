import ast
import importlib
import inspect
import os
import unittest

from tests.interface import CLASSES, FUNCTIONS

FOLDER = os.path.join(os.path.dirname(os.path.dirname(os.path.abspath(__file__))), "coeditry")


def body_of(module):
    with open(os.path.join(FOLDER, module + ".py"), encoding="utf-8") as held:
        return ast.parse(held.read()).body


def shown(function):
    return function.__name__ + str(inspect.signature(function))


class InterfaceTest(unittest.TestCase):
    def test_each_function_is_defined_in_its_file_with_these_arguments(self):
        for module, rows in FUNCTIONS.items():
            defined = [node.name for node in body_of(module) if isinstance(node, ast.FunctionDef)]
            loaded = importlib.import_module("coeditry." + module)
            for row in rows:
                name = row.split("(")[0]
                self.assertIn(name, defined)
                self.assertEqual(shown(getattr(loaded, name)), row)

    def test_each_class_is_defined_in_its_file_with_these_methods(self):
        for module, classes in CLASSES.items():
            defined = {node.name: node for node in body_of(module) if isinstance(node, ast.ClassDef)}
            loaded = importlib.import_module("coeditry." + module)
            for name, rows in classes.items():
                methods = [node.name for node in defined[name].body if isinstance(node, ast.FunctionDef)]
                for row in rows:
                    method = row.split("(")[0]
                    self.assertIn(method, methods)
                    self.assertEqual(shown(getattr(getattr(loaded, name), method)), row)


if __name__ == "__main__":
    unittest.main()
