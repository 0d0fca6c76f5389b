"""The interface: its names and arguments, and what a higher stage draws from a lower one."""

import ast
import inspect
import unittest
from importlib import import_module
from pathlib import Path

PACKAGE = Path(__file__).resolve().parent.parent / "homeround"

# The names of each stage, with the arguments of each in order.
INTERFACE = {
    "tables": {
        "is_table": "thing", "is_even": "table", "is_straight": "table", "is_round": "table thing",
        "length": "table round_", "shortened": "table", "walk": "table one other",
    },
    "shortest": {"shortest": "table", "do_show": "table floors number", "how_many": "table"},
    "nexts": {"nexts": "table", "are_outs_ins": "table outs ins number", "circles": "some"},
    "trees": {"least_tree": "table", "is_least_tree": "table ties"},
    "hung": {"hung": "table prices"},
    "shares": {
        "shares": "table", "are_shares": "table some worth", "are_cuts": "table some worth", "best_prices": "table",
    },
    "rounds": {"walked": "table ties", "pairing": "table some", "by_pairs": "table"},
    "puttings": {
        "nearest": "table", "cheapest": "table", "near": "table", "far": "table", "put_in": "table order",
    },
    "moves": {
        "is_move": "one other", "is_settled": "table round_", "bettered": "table round_", "are_bettered": "table some",
    },
    "drawn": {
        "is_drawn": "thing many", "table_of": "drawn many", "tree_or_four": "table", "tree_round": "table",
    },
    "rings": {"ring_or_four": "table order", "ring_order": "table"},
    "falling": {"pyramid": "table", "falling_or_four": "table"},
    "webs": {
        "is_web": "thing", "web_table": "web", "web_round": "web", "parting": "web", "closed": "web",
        "pulled": "web steps round_",
    },
    "texts": {"show_table": "table", "read_table": "text"},
    "desk": {"Desk": ""},
}


class Interface(unittest.TestCase):
    def test_names_and_arguments(self):
        for stage, names in INTERFACE.items():
            module = import_module("homeround." + stage)
            for name, arguments in names.items():
                with self.subTest(f"{stage}.{name}"):
                    found = inspect.signature(getattr(module, name)).parameters
                    self.assertEqual(list(found), arguments.split())
                    self.assertTrue(all(one.default is one.empty for one in found.values()))

    def test_a_desk_is_told_rows(self):
        found = inspect.signature(import_module("homeround.desk").Desk().say).parameters
        self.assertEqual(list(found), ["row"])

    def test_a_stage_draws_from_lower_ones_what_the_interface_names(self):
        stages = list(INTERFACE)
        for at, stage in enumerate(stages):
            tree = ast.parse((PACKAGE / f"{stage}.py").read_text("ascii"))
            for node in ast.walk(tree):
                if isinstance(node, ast.ImportFrom):
                    source = node.module.split(".")[1]
                    if source in INTERFACE:
                        self.assertIn(source, stages[:at])
                        self.assertLessEqual({part.name for part in node.names}, set(INTERFACE[source]))


if __name__ == "__main__":
    unittest.main()
