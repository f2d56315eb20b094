"""Checks that the interface is there: names, arguments, and the file in which each is defined."""

import ast
import pathlib
import unittest

ROOT = pathlib.Path(__file__).resolve().parent.parent / "allstitches"

FUNCTIONS = {
    "kinds": {"is_kind": "thing", "is_cell": "thing", "is_word": "thing", "takes": "word", "makes": "word",
              "behind": "word", "mirrored_word": "word"},
    "lines": {"is_line": "thing"},
    "pieces": {"is_row": "thing", "measure_of": "parts"},
    "counting": {"spots": "piece", "last_loops": "piece", "out_sizes": "piece", "trouble": "piece size"},
}
METHODS = {
    "sizes": {"Sizes": {"__init__": "early start period later", "__contains__": "x", "__and__": "other",
                        "__or__": "other", "__sub__": "other", "__invert__": "", "__eq__": "other", "__bool__": "",
                        "many": "", "least": "", "first": "many", "within": "other"}},
    "lines": {"Ratio": {"at": "size"}},
    "pieces": {"Piece": {"__init__": "way cast parts"}},
    "errors": {"BadPiece": {"__init__": "part"}, "NotOut": {"__init__": "row why"}, "NotWritten": {"__init__": "part"}},
}


def body(module):
    return ast.parse((ROOT / f"{module}.py").read_text(encoding="utf-8")).body


def arguments(function):
    return [argument.arg for argument in function.args.args]


class TestInterface(unittest.TestCase):
    def test_functions(self):
        for module, names in FUNCTIONS.items():
            found = {node.name: arguments(node) for node in body(module) if isinstance(node, ast.FunctionDef)}
            for name, told in names.items():
                self.assertEqual(found.get(name), told.split(), (module, name))

    def test_methods(self):
        for module, classes in METHODS.items():
            found = {node.name: node.body for node in body(module) if isinstance(node, ast.ClassDef)}
            for name, methods in classes.items():
                mine = {node.name: arguments(node) for node in found[name] if isinstance(node, ast.FunctionDef)}
                for method, told in methods.items():
                    self.assertEqual(mine.get(method), ["self"] + told.split(), (module, name, method))


if __name__ == "__main__":
    unittest.main()
