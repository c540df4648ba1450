"""The interface: which file defines what, and how parameters are called."""

import ast
import importlib
import inspect
import pathlib
import unittest

PACKAGE = pathlib.Path(__file__).resolve().parent.parent / "saidatonce"

FUNCTIONS = {
    "reach": {"walk_reach": "batches", "ring_reach": "batches"},
    "disk": {"pending_places": "events", "cut_cells": "cells events octets"},
    "layers": {"thing_layers": "table thing most"},
    "lexer": {"marks_in": "text"},
    "places": {
        "are_roads": "value", "place_distances": "roads", "are_spots": "table roads value", "least_sums": "table most",
        "is_placed": "table roads spots batches", "spots_for": "table roads spots batches thing",
        "batch_spots": "table roads spots batches things",
    },
    "squares": {
        "tie_rows": "table", "joined_rows": "one other", "greatest_weights": "table most",
        "closed_weights": "table most", "heaviest_walk": "table one other most", "heaviest_ring": "table thing most",
    },
    "tables": {
        "thing_number": "table name", "ties_with": "table thing", "ties_between": "table one other",
        "sharpest_tie": "table one other", "tie_weight": "table one other", "sharpest": "table",
        "without_ties": "table ties", "with_tie": "table tie", "without_things": "table things",
        "renamed_table": "table names", "turned": "table", "stretched": "table factor", "pieces_of": "table",
        "things_but": "table lot",
    },
    "times": {
        "check_times": "table value", "are_times": "table value", "are_batches": "value", "check_batches": "value",
        "nothing_said": "table", "come": "times", "missing": "times", "moved_times": "times by",
        "turned_times": "times", "stretched_times": "times factor", "placed_times": "times places",
        "times_without": "times things",
    },
}

CLASSES = {
    "errors": {
        "HourError": {}, "InvalidTable": {"__init__": "at"}, "InvalidText": {"__init__": "line at"},
        "InvalidTimes": {"__init__": "at"}, "InvalidDay": {"__init__": "at"}, "InvalidPaper": {"__init__": "at"},
        "InvalidNumber": {"__init__": "word"}, "Refused": {"__init__": "word"}, "Broken": {"__init__": "word"},
    },
    "disk": {"Disk": {"__init__": "cells", "look": "at", "put": "at octet", "flush": "", "events": ""}},
    "tables": {"Table": {"__init__": "things ties"}},
}


def defined_in(name, kind):
    """What the file of a module defines itself, by names."""
    tree = ast.parse((PACKAGE / (name + ".py")).read_text(encoding="utf-8"))
    return {node.name: node for node in tree.body if isinstance(node, kind)}


class InterfaceTest(unittest.TestCase):
    def test_functions(self):
        for module, functions in FUNCTIONS.items():
            here = importlib.import_module("saidatonce." + module)
            own = defined_in(module, ast.FunctionDef)
            for name, parameters in functions.items():
                self.assertIn(name, own, module)
                told = inspect.signature(getattr(here, name)).parameters
                self.assertEqual(" ".join(told), parameters, name)

    def test_classes(self):
        for module, classes in CLASSES.items():
            here = importlib.import_module("saidatonce." + module)
            own = defined_in(module, ast.ClassDef)
            for name, methods in classes.items():
                self.assertIn(name, own, module)
                for method, parameters in methods.items():
                    self.assertIn(method, vars(getattr(here, name)), name)
                    told = inspect.signature(vars(getattr(here, name))[method]).parameters
                    self.assertEqual(" ".join(list(told)[1:]), parameters, (name, method))

    def test_attributes(self):
        from saidatonce.disk import Disk
        from saidatonce.tables import Table
        table = Table(ties=(), things=("a",))
        self.assertEqual((table.things, table.ties, Disk(cells=(5,)).cells), (("a",), (), (5,)))


if __name__ == "__main__":
    unittest.main()
