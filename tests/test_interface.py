"""The interface: which file defines what, and how parameters are called."""

import ast
import importlib
import inspect
import pathlib
import unittest

PACKAGE = pathlib.Path(__file__).resolve().parent.parent / "saidatonce"

FUNCTIONS = {
    "reach": {"walk_reach": "batches", "ring_reach": "batches"},
    "disk": {"pending_places": "events", "cut_cells": "cells events octets"},
    "layers": {"thing_layers": "table thing most"},
    "lexer": {"marks_in": "text"},
    "places": {
        "are_roads": "value", "place_distances": "roads", "are_spots": "table roads value", "least_sums": "table most",
        "is_placed": "table roads spots batches", "spots_for": "table roads spots batches thing",
        "batch_spots": "table roads spots batches things",
    },
    "squares": {
        "tie_rows": "table", "joined_rows": "one other", "greatest_weights": "table most",
        "closed_weights": "table most", "heaviest_walk": "table one other most", "heaviest_ring": "table thing most",
    },
    "tables": {
        "thing_number": "table name", "ties_with": "table thing", "ties_between": "table one other",
        "sharpest_tie": "table one other", "tie_weight": "table one other", "sharpest": "table",
        "without_ties": "table ties", "with_tie": "table tie", "without_things": "table things",
        "renamed_table": "table names", "turned": "table", "stretched": "table factor", "pieces_of": "table",
        "things_but": "table lot",
    },
    "times": {
        "check_times": "table value", "are_times": "table value", "are_batches": "value", "check_batches": "value",
        "nothing_said": "table", "come": "times", "missing": "times", "moved_times": "times by",
        "turned_times": "times", "stretched_times": "times factor", "placed_times": "times places",
        "times_without": "times things",
    },
    "walks": {
        "is_walk": "table value", "is_walk_between": "table one other value", "is_closed_walk": "table value",
        "walk_things": "table walk", "walk_ends": "table walk", "walk_weight": "table walk", "cut_walk": "walk places",
        "unwound": "table walk",
    },
    "attacks": {"is_attack": "table times batches value"},
    "bounds": {"bound_paper": "table most", "is_bound_paper": "table most value"},
    "colours": {
        "pairs_agree": "table count said many", "colour_game": "table count said many", "colour_gap": "count",
    },
    "commands": {
        "is_command": "value", "read_commands": "text", "show_command": "command", "show_commands": "commands",
    },
    "cuts": {"all_cuts": "orders many", "best_cut": "orders many", "worst_cut": "orders many"},
    "days": {
        "is_batch": "table times value", "check_day": "table value", "is_day": "table value kept",
        "said": "times pairs", "course_of": "table day", "times_of": "table day", "lots_of": "day",
        "day_by": "lots times", "moved_day": "day by", "fits_batches": "day batches", "broken_ties": "table times",
        "is_kept": "table times", "first_broken": "table day",
    },
    "farpapers": {
        "far_paper": "table roads spots batches", "is_far_paper": "table roads spots batches value",
    },
    "forecasts": {
        "are_calls": "table value", "check_forecast": "table value", "plain_forecast": "table batches",
        "numbers_of": "forecast", "news_behind": "forecast call thing",
    },
    "limits": {"limits": "table times", "is_within": "pair batches"},
    "literals": {
        "are_answers": "rules value", "broken_rules": "rules answers", "answer_pairs": "rules many",
        "is_answerable": "rules answers many", "answers_for": "rules answers many thing", "steady_answers": "rules",
        "answer_plan": "rules answers",
    },
    "printer": {
        "show_table": "table", "show_times": "table times", "show_day": "table day", "show_batches": "batches",
        "show_lot": "table lot",
    },
    "room": {"room_for": "table first last batches", "is_room": "table first last batches room"},
    "steady": {
        "barring_walk": "table most", "steady_length": "table", "final_weights": "table", "mean_ring": "table",
        "greatest_mean": "table",
    },
    "telling": {"is_as_hard": "one other", "telling_case": "one other"},
    "asking": {
        "asking_tree": "rules answers many", "is_asking_tree": "rules answers many value", "asking_height": "tree",
    },
    "court": {
        "court": "table batches", "is_safe": "table batches", "is_barring": "table batches value",
        "is_verdict": "table batches value", "safe_paper": "table batches", "is_safe_paper": "table batches value",
    },
    "games": {
        "window_of": "table times", "kept_batches": "table times lot", "can_keep_together": "table times lot",
        "can_keep": "table times batches", "can_keep_among": "table times lot batches",
        "least_orders": "table times most", "right_batches": "table times lot batches",
        "beating_lots": "table times batches", "first_answers": "table lots batches",
    },
    "heights": {"attack_height": "attack", "end_ties": "attack", "all_things_of": "attack"},
    "plans": {
        "is_plan": "table times value", "plan_by": "table times wishes", "hours_in_plans": "table times thing",
        "lesser_plan": "one other", "greater_plan": "one other",
    },
    "playing": {
        "lot_of": "attack", "attack_behind": "table times attack", "beaten_by": "table times attack wishes",
    },
    "reader": {
        "read_table": "text", "read_times": "table text", "read_day": "table text", "read_batches": "text",
        "read_lot": "table text", "completed_table": "text", "completed_times": "table text",
        "completed_day": "table text",
    },
    "roomdays": {"hard_things": "table first last orders", "room_day": "table first last room things"},
    "roompapers": {
        "room_paper": "table first last batches room", "is_room_paper": "table first last batches room value",
    },
    "rooms": {
        "room_steps": "table first last", "most_orders": "table first last room", "table_with_rooms": "rooms",
    },
    "rounds": {
        "most_rounds": "table times orders", "sure_rounds": "table times orders", "least_waiting": "table times orders",
    },
    "soon": {"is_ever_after": "table batches", "orders_for_ever": "table", "late_times": "table batches"},
    "held": {
        "held": "table times batches", "is_held": "table times batches", "is_held_paper": "table times batches value",
    },
    "idle": {
        "idle_walk": "table tie", "idle_ties": "table", "core_ties": "table", "is_core": "table value",
        "breaking_plan": "table tie", "telling_plan": "table other",
    },
    "rings": {
        "ring_length": "table", "fewest_orders": "table", "fewest_batches": "table size", "beaten_at": "table batches",
        "barred_things": "table batches", "least_easing": "table batches",
    },
    "brief": {"fewest_ties": "table times batches", "orders_that_beat": "table times"},
    "clerk": {"batch_times": "table times batches things", "answers_to": "table times batches lots"},
    "foretold": {
        "held_by": "table times forecast", "is_held_by": "table times forecast",
        "is_forecast_paper": "table times forecast value",
    },
    "forever": {"can_for_ever": "table times", "for_ever": "table times", "is_ever_paper": "table times value"},
    "ranges": {
        "hours_for": "table times batches thing", "all_hours": "table times batches",
        "hours_course": "table day batches thing",
    },
    "sheets": {"is_sheet": "value", "new_sheet": "table batches"},
    "spoil": {"spoiling_lot": "table times batches"},
    "deeds": {"is_deed": "sheet value", "sheet_after": "sheet deed", "sheet_after_all": "sheet deeds"},
    "edges": {"why_not": "table times batches thing hour", "edge_walks": "table times batches thing"},
    "halving": {"batches_needed": "table times batches", "attack_on": "table times batches"},
    "harmless": {"harmless_hours": "table times batches thing"},
    "lesser": {
        "is_lesser": "one other", "hours_by_forecast": "table times forecast thing",
        "helpful_news": "table times forecast",
    },
    "promises": {
        "say_deed": "sheet things", "hour_deed": "sheet thing wish", "most_more": "sheet",
        "heaviest_tie": "sheet one other",
    },
    "refusals": {
        "is_refusal": "table times batches value", "cheapest_refusal": "table times batches prices",
        "least_price": "table times batches prices", "lean_refusals": "table times batches",
        "is_strike": "table times batches value", "fewest_strikes": "table times batches",
        "lean_strikes": "table times batches",
    },
    "together": {
        "hours_together": "table times batches things", "gaps_together": "table times batches things",
        "answer_with": "table times batches things thing hour",
        "is_batch_answer": "table times batches things value",
    },
    "desk": {"start_desk": "disk table batches"},
    "pricepapers": {
        "refusal_paper": "table times batches prices", "is_refusal_paper": "table times batches prices value",
        "strike_paper": "table times batches", "is_strike_paper": "table times batches value",
    },
    "runs": {
        "run_commands": "sheet commands", "run_with_papers": "sheet commands",
        "sheet_of_run": "sheet commands results", "show_result": "result", "run_script": "sheet text",
    },
    "claims": {"run_fault": "sheet commands answers", "is_so": "value", "not_so": "values"},
}

# all parameters that have one
DEFAULTS = {("is_day", "kept"): True}

CLASSES = {
    "errors": {
        "HourError": {}, "InvalidTable": {"__init__": "at"}, "InvalidText": {"__init__": "line at"},
        "InvalidTimes": {"__init__": "at"}, "InvalidDay": {"__init__": "at"}, "InvalidPaper": {"__init__": "at"},
        "InvalidNumber": {"__init__": "word"}, "Refused": {"__init__": "word"}, "Broken": {"__init__": "word"},
    },
    "disk": {"Disk": {"__init__": "cells", "look": "at", "put": "at octet", "flush": "", "events": ""}},
    "tables": {"Table": {"__init__": "things ties"}},
    "attacks": {
        "TieBroken": {"__init__": "tie"}, "Coming": {"__init__": "things parts"}, "Attack": {"__init__": "walk tree"},
    },
    "bounds": {"BoundPaper": {"__init__": "steps rows"}},
    "farpapers": {"FarPaper": {"__init__": "things ties"}},
    "literals": {"Rules": {"__init__": "things rules"}},
    "court": {"Safe": {}, "Barred": {"__init__": "walk"}},
    "roompapers": {"Roomy": {"__init__": "layers"}, "Heavy": {"__init__": "walk"}},
    "held": {"Held": {}, "Short": {"__init__": "walk"}},
    "journal": {"Journal": {"__init__": "disk", "records": "", "write": "record", "drop": "many", "renew": "records"}},
    "foretold": {"Lost": {"__init__": "steps"}},
    "forever": {"Ever": {"__init__": "plan"}},
    "sheets": {"Sheet": {"__init__": "table times batches"}},
    "desk": {
        "Desk": {
            "__init__": "disk", "do": "deed", "answer": "things", "enter": "thing wish", "undo": "many", "deeds": "",
            "begun": "", "pack": "",
        },
    },
    "pricepapers": {"PricePaper": {"__init__": "price rows"}},
}


def defined_in(name, kind):
    """What the file of a module defines itself, by names."""
    tree = ast.parse((PACKAGE / (name + ".py")).read_text(encoding="utf-8"))
    return {node.name: node for node in tree.body if isinstance(node, kind)}


class InterfaceTest(unittest.TestCase):
    def test_functions(self):
        for module, functions in FUNCTIONS.items():
            here = importlib.import_module("saidatonce." + module)
            own = defined_in(module, ast.FunctionDef)
            for name, parameters in functions.items():
                self.assertIn(name, own, module)
                told = inspect.signature(getattr(here, name)).parameters
                self.assertEqual(" ".join(told), parameters, name)
                for word, parameter in told.items():
                    self.assertIs(parameter.default, DEFAULTS.get((name, word), inspect.Parameter.empty), name)

    def test_classes(self):
        for module, classes in CLASSES.items():
            here = importlib.import_module("saidatonce." + module)
            own = defined_in(module, ast.ClassDef)
            for name, methods in classes.items():
                self.assertIn(name, own, module)
                for method, parameters in methods.items():
                    self.assertIn(method, vars(getattr(here, name)), name)
                    told = inspect.signature(vars(getattr(here, name))[method]).parameters
                    self.assertEqual(" ".join(list(told)[1:]), parameters, (name, method))

    def test_attributes(self):
        from saidatonce.disk import Disk
        from saidatonce.tables import Table
        table = Table(ties=(), things=("a",))
        self.assertEqual((table.things, table.ties, Disk(cells=(5,)).cells), (("a",), (), (5,)))
        from saidatonce.desk import Desk, start_desk
        disk = Disk((0,) * 300)
        start_desk(disk, table, ())
        self.assertIs(Desk(disk=disk).disk, disk)
        self.assertIs(Desk(disk).sheet.table == table, True)

    def test_all_modules_of_the_document(self):
        told = set(FUNCTIONS) | set(CLASSES)
        self.assertEqual(len(told), 59)
        here = {path.stem for path in PACKAGE.glob("*.py")}
        self.assertEqual(here - told, {"__init__", "kinds"})
        self.assertEqual(told - here, set())


if __name__ == "__main__":
    unittest.main()
