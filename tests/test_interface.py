"""The interface: each name stands in the file under which the document lists it."""

import importlib
import os
import unittest

import odds
from tests.support import Case

INTERFACE = {
    "numerals": "to_digits from_digits",
    "ratios": "ratio plus minus times over compare plus_all times_all rest is_chance write_ratio "
              "read_ratio",
    "tables": "tabulate mass_at table_total scaled joined normalized projected mean",
    "tokens": "tokenize spell bracket_depth is_name is_numeral",
    "cursor": "Cursor",
    "trees": "height count_nodes names_in expressions_of targets_of",
    "expressions": "parse_expression",
    "parser": "parse_program",
    "printer": "show_expression show_program",
    "scopes": "main_scope procedure_scope procedure_named calls_in reachable_procedures",
    "kinds": "kind_of",
    "checks": "check_program is_sound",
    "values": "evaluate",
    "draws": "flip_weights uniform_weights pick_weights chance",
    "machine": "run",
    "paths": "paths count_paths weigh_paths",
    "flat": "evaluate_flat cells_in flatten_expression",
    "flatrun": "run_flat flat_paths weigh_flat",
    "sizes": "code_size",
    "unroll": "unroll",
    "listing": "list_flat",
    "spans": "span_of is_safe",
    "tracing": "spans_after trace_spans",
    "folding": "fold propagate",
    "slicing": "is_safe_instruction live_cells slice_flat thin",
    "store": "Store",
    "written": "write_diagram read_diagram",
    "orders": "reorder swap_gain sift",
    "coins": "Coins",
    "splits": "gather narrow select domain where value_under",
    "splitting": "split_expression split_tuples",
    "outcomes": "Outcomes build_outcomes outcome_under choices_under",
    "counting": "count counts count_given slope likeliest",
    "answers": "answer_of evidence lost posterior marginal expected probability_that",
    "engine": "infer infer_program infer_by_states",
    "states": "carry",
    "queries": "Query",
    "reports": "write_report read_report",
}

METHODS = {
    ("cursor", "Cursor"): "taken peek take skip_if expect name numeral",
    ("store", "Store"): "node coin level low high choose negate both either without either_of "
                        "restrict value support nodes_below models same_as",
    ("coins", "Coins"): "fresh chances alternatives",
    ("queries", "Query"): "answer program source chances best_run influence",
}


class InterfaceTest(Case):

    def test_names(self):
        for module, names in INTERFACE.items():
            found = importlib.import_module("odds." + module)
            for name in names.split():
                self.assertEqual(getattr(found, name).__module__, "odds." + module)
                self.assertEqual(getattr(found, name).__name__, name)

    def test_methods(self):
        """Each method stands in its class itself, not only in a base class."""
        for (module, name), methods in METHODS.items():
            own = vars(getattr(importlib.import_module("odds." + module), name))
            for method in methods.split():
                self.assertIn(method, own)

    def test_the_folder_contains_modules_only(self):
        folder = os.path.dirname(odds.__file__)
        others = [name for name in os.listdir(folder)
                  if not name.endswith(".py") and name != "__pycache__"]
        self.assertEqual(others, [])


if __name__ == "__main__":
    unittest.main()
