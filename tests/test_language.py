"""That the package keeps to its interface and to those rules of its language that are quickly looked up."""

import ast
import inspect
import pathlib
import unittest

import cutback
from cutback import errors, machine, pieces, putting, running, translating

FOLDER = pathlib.Path(cutback.__file__).parent
FILES = sorted(FOLDER.glob("*.py"))

INTERFACE = {
    pieces: {"is_piece": ["thing"], "is_closed": ["thing"], "free_names": ["piece"]},
    putting: {
        "put_in": ["piece", "name", "value"], "stepped": ["piece"], "ways": ["piece", "fuel"],
        "by_putting": ["piece", "fuel"],
    },
    machine: {"moves": ["piece", "fuel"], "unloaded": ["state"], "by_machine": ["piece", "fuel"]},
    translating: {"plain": ["piece"]},
    running: {"run_plain": ["term", "fuel"], "by_plain": ["piece", "fuel"]},
}


class TheInterface(unittest.TestCase):
    def test_functions(self):
        for module, functions in INTERFACE.items():
            for function_name, parameters in functions.items():
                function = getattr(module, function_name)
                self.assertEqual(list(inspect.signature(function).parameters), parameters)
                self.assertEqual(function.__module__, module.__name__)

    def test_classes(self):
        for class_name in ("PieceError", "BadPiece", "BadFuel"):
            self.assertEqual(getattr(errors, class_name).__module__, "cutback.errors")


class TheLanguage(unittest.TestCase):
    def test_nothing_but_files(self):
        self.assertEqual([path for path in FOLDER.iterdir() if path not in FILES and path.name != "__pycache__"], [])

    def test_characters_and_size(self):
        for path in FILES:
            text = path.read_text("utf-8")
            self.assertTrue(all(sign == "\n" or " " <= sign <= "~" for sign in text), path)
            self.assertLessEqual(len(text.splitlines()), 399, path)
            self.assertLessEqual(max(len(line) for line in text.splitlines()), 120, path)

    def test_functions_are_short(self):
        for path in FILES:
            for node in ast.walk(ast.parse(path.read_text("utf-8"))):
                if isinstance(node, ast.FunctionDef):
                    self.assertLessEqual(node.end_lineno - node.lineno + 1, 40, node.name)

    def test_imports(self):
        for path in FILES:
            for node in ast.walk(ast.parse(path.read_text("utf-8"))):
                self.assertNotIsInstance(node, ast.Import)
                if isinstance(node, ast.ImportFrom):
                    self.assertTrue(node.module.startswith("cutback."), path)
                    self.assertEqual(node.level, 0)


if __name__ == "__main__":
    unittest.main()
