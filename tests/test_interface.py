"""Checks that the interface is there: names, arguments, and the file in which each is defined."""

import ast
import pathlib
import unittest

ROOT = pathlib.Path(__file__).resolve().parent.parent / "allstitches"

FUNCTIONS = {
    "kinds": {"is_kind": "thing", "is_cell": "thing", "is_word": "thing", "takes": "word", "makes": "word",
              "behind": "word", "mirrored_word": "word"},
    "lines": {"is_line": "thing"},
    "pieces": {"is_row": "thing", "measure_of": "parts"},
    "counting": {"spots": "piece", "last_loops": "piece", "out_sizes": "piece", "trouble": "piece size"},
    "families": {"family_of": "row", "same_family": "one two", "first_unlike": "one two"},
    "knitting": {"cloth": "piece size / * most", "loops_at": "piece size"},
    "sameness": {"where_same": "one two", "compare": "one two"},
    "turning": {"turned": "piece", "mirrored": "piece", "inside_out": "piece", "where_centred": "piece"},
    "floats": {"widest": "piece yarn", "where_narrow": "piece yarn most"},
    "agreeing": {"agreeing": "one two"},
    "crossing": {"sent": "rows loops way", "back_after": "rows loops way", "where_back": "rows rounds way"},
    "sides": {"yarns_of": "piece", "where_hanging": "piece", "where_yarns": "piece most"},
    "joining": {"joined": "one two", "where_goes_on": "one two", "parted": "piece part"},
    "settexts": {"write_sizes": "sizes", "read_sizes": "text"},
    "reading": {"read_piece": "text", "read_row": "text"},
    "writing": {"write_piece": "piece", "write_row": "row", "write_word": "word", "write_line": "line"},
    "costs": {"cheapest": "word", "cost": "writing", "spelled": "writing", "writing_text": "writing"},
    "rewriting": {"alike_rows": "row", "thrift": "row", "are_alike": "row other"},
    "charting": {"cheapest_parts": "chart"},
    "fitting": {"rows_fitting": "told"},
    "tabling": {"fold": "table", "at_size": "piece size"},
    "seams": {"edge_of": "piece edge", "where_seam": "one edge other other_edge", "where_all": "seams",
              "where_picked": "one edge other take units"},
    "yarn": {"amount": "piece what", "where_more": "one other what", "where_most": "piece what most"},
    "hanging": {"below": "piece size row place", "above": "piece size row place", "hangs_on": "piece size row place",
                "undone": "piece size loop", "where_closed": "piece"},
    "spreading": {"spread": "total parts", "judge_spread": "gaps", "schedule": "rows times",
                  "shaped": "way cast plain change gaps"},
    "gauging": {"nearest": "piece edge above below", "where_between": "piece edge low high"},
    "repairing": {"repair": "piece wanted", "recast": "piece change"},
    "edits": {"edited": "piece edit", "edited_all": "piece edits", "where_kept": "piece edit", "keeps": "piece edit"},
    "differing": {"fewest_changes": "one other", "distance": "one other"},
    "garments": {"is_name": "thing"},
    "holes": {"fillings": "open_piece wanted", "ends_with": "open_piece wanted loops"},
    "signs": {"write_chart": "looks legend", "read_chart": "text legend", "counts_fit": "looks"},
    "grading": {"grade": "wanted", "far_by": "line wanted"},
}
METHODS = {
    "sizes": {"Sizes": {"__init__": "early start period later", "__contains__": "x", "__and__": "other",
                        "__or__": "other", "__sub__": "other", "__invert__": "", "__eq__": "other", "__bool__": "",
                        "many": "", "least": "", "first": "many", "within": "other"}},
    "lines": {"Ratio": {"at": "size"}},
    "pieces": {"Piece": {"__init__": "way cast parts"}},
    "families": {"Family": {"__init__": "left group right", "word": "turns", "length": "turns", "of_length": "many"}},
    "knitting": {"Needles": {"__init__": "loops way", "work": "row"}},
    "sameness": {"Verdict": {"__bool__": ""}},
    "agreeing": {"Sheet": {"__init__": "period rows", "shows": "one two"},
                 "Split": {"__init__": "size", "shows": "one two"}},
    "errors": {"BadPiece": {"__init__": "part"}, "NotOut": {"__init__": "row why"}, "NotWritten": {"__init__": "part"}},
    "faults": {"BadText": {"__init__": "line column"}, "NoEdit": {"__init__": "kind"}, "BadName": {"__init__": "name"},
               "NoPiece": {"__init__": "name"}},
    "costs": {"Cheapest": {"__init__": "writing table", "shows": "word"}},
    "rewriting": {"Thrift": {"__init__": "row costs", "shows": "row"}},
    "charting": {"Chart": {"__init__": "parts bounds", "shows": "chart"}},
    "tabling": {"Folded": {"__init__": "piece", "shows": "table", "__bool__": ""},
                "Unfolded": {"__init__": "place sizes", "shows": "table", "__bool__": ""}},
    "yarn": {"Amount": {"at": "size", "told": "", "plus": "other factor", "times": "above below",
                        "where_positive": ""}},
    "spreading": {"Even": {"__init__": "shift", "shows": "gaps", "__bool__": ""},
                  "Uneven": {"__init__": "one other width", "shows": "gaps", "__bool__": ""}},
    "repairing": {"Repair": {"__init__": "change against", "shows": "piece wanted", "__bool__": ""},
                  "Beyond": {"__init__": "against", "shows": "piece wanted", "__bool__": ""}},
    "differing": {"Changes": {"__init__": "steps bounds", "shows": "one other"}},
    "garments": {"Garment": {"__init__": "**pieces", "__getitem__": "at", "__setitem__": "at worth",
                             "__contains__": "x", "__len__": "", "names": "", "pairs": "",
                             "sew": "name edge other other_edge", "seams": "", "unpick": "", "out": "",
                             "hindering": "size", "edit": "name *edits", "undo": "name", "cells": "what", "draft": "",
                             "attempt": "deed", "joined": "*garments"}},
    "holes": {"Open": {"__init__": "way cast parts", "holes": "", "filled": "numbers", "choices": ""},
              "Filling": {"__init__": "good against", "shows": "open_piece wanted", "__bool__": ""}},
    "signs": {"Legend": {"__init__": "told"}},
    "grading": {"Grade": {"__init__": "line against", "shows": "wanted"}},
}


def body(module):
    return ast.parse((ROOT / f"{module}.py").read_text(encoding="utf-8")).body


def arguments(function):
    """The names of the arguments; / and * stand behind those by position, and ahead of those by name."""
    told = function.args
    names = [argument.arg for argument in told.posonlyargs] + ["/"] * bool(told.posonlyargs)
    names += [argument.arg for argument in told.args]
    names += ["*"] * bool(told.kwonlyargs) + [argument.arg for argument in told.kwonlyargs]
    return names + [sign + one.arg for sign, one in (("*", told.vararg), ("**", told.kwarg)) if one]


class TestInterface(unittest.TestCase):
    def test_functions(self):
        for module, names in FUNCTIONS.items():
            found = {node.name: arguments(node) for node in body(module) if isinstance(node, ast.FunctionDef)}
            for name, told in names.items():
                self.assertEqual(found.get(name), told.split(), (module, name))

    def test_methods(self):
        for module, classes in METHODS.items():
            found = {node.name: node.body for node in body(module) if isinstance(node, ast.ClassDef)}
            for name, methods in classes.items():
                mine = {node.name: arguments(node) for node in found[name] if isinstance(node, ast.FunctionDef)}
                for method, told in methods.items():
                    self.assertEqual(mine.get(method, [])[1:], told.split(), (module, name, method))
                    self.assertIn(mine.get(method, [""])[0], ("self", "cls"), (module, name, method))


if __name__ == "__main__":
    unittest.main()
