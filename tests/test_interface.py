"""The names and arguments of the interface, as the document has them."""

import importlib
import inspect
import unittest

INTERFACE = {
    "wearplan.signs": {"is_whole": "thing least most"},
    "wearplan.errors": {
        "NoPart": "at", "NoWorks": "at", "NoPlan": "at", "Shut": "round_number",
        "Falls": "round_number part_number", "TooGreat": "most", "NoText": "row",
    },
    "wearplan.parts": {
        "Part": "full mark wear price", "loss": "part round_number", "worn": "part stand first rounds",
        "lasts": "part stand first most",
    },
    "wearplan.works": {
        "Works": "parts call shut", "is_choice": "works thing", "cost_of": "works choice",
    },
    "wearplan.walks": {
        "is_plan": "works thing", "price_of": "works plan", "walk": "works stands plan first",
    },
    "wearplan.ones": {
        "late_changes": "part stand first rounds", "needs": "part stand first a b",
        "is_stretches": "part stand first rounds thing", "stretches": "part stand first rounds",
    },
    "wearplan.tables": {
        "least": "works stands first rounds", "best_plan": "works stands first rounds",
        "table_of": "works stands first rounds", "is_table": "works stands first rounds thing", "worth_of": "table",
    },
    "wearplan.prices": {
        "single_least": "part stand first prices shut", "is_shares": "works thing", "even_shares": "works rounds",
        "bound": "works stands first shares",
    },
    "wearplan.leading": {
        "led": "works stands plan done first", "with_part": "works part", "with_mark": "works k mark",
        "with_price": "works k price", "with_call": "works call", "with_shut": "works round_number",
    },
    "wearplan.ever": {
        "period": "works", "is_trip": "works stands lead trip", "best_trip": "works stands", "mean_of": "works trip",
        "worths_of": "works stands", "is_worths": "works stands price rounds thing",
    },
    "wearplan.shares": {
        "Shared": "full mark shares", "total_of": "part", "weights_behind": "part stand rounds changes",
        "chance_of_fall": "part stand rounds changes",
    },
    "wearplan.looking": {
        "LookPrices": "look change fall", "risk_of": "part weights prices rounds",
        "best_move": "part weights prices rounds", "least_risk": "part stand prices rounds",
    },
    "wearplan.texts": {
        "show_plan": "plan first", "read_plan": "text", "show_part": "part", "read_part": "text",
    },
    "wearplan.desk": {"Desk": "call"},
}
DESK = {
    "add": "part", "set_mark": "k mark", "shut_round": "round_number", "go": "choice", "told": "", "works": "",
    "plan": "rounds",
}


class InterfaceTest(unittest.TestCase):
    def check_arguments(self, thing, arguments):
        parameters = inspect.signature(thing).parameters.values()
        self.assertEqual([parameter.name for parameter in parameters], arguments.split())
        for parameter in parameters:
            self.assertIs(parameter.kind, parameter.POSITIONAL_OR_KEYWORD)
            self.assertIs(parameter.default, parameter.empty)

    def test_each_stands_in_its_module_with_its_arguments(self):
        for module, names in INTERFACE.items():
            for name, arguments in names.items():
                with self.subTest(module=module, name=name):
                    thing = getattr(importlib.import_module(module), name)
                    self.assertEqual(thing.__module__, module)
                    self.check_arguments(thing, arguments)

    def test_the_desks_methods(self):
        desk = importlib.import_module("wearplan.desk").Desk(5)
        for name, arguments in DESK.items():
            with self.subTest(name=name):
                self.check_arguments(getattr(desk, name), arguments)


if __name__ == "__main__":
    unittest.main()
