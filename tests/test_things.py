"""What holds for all that is asked: names in any order, nothing changed, the same each time, made of told things."""

import unittest

from helper import by_names, fields_of, is_told, listed, seen
from test_interface import INTERFACE
from wearplan.desk import Desk
from wearplan.errors import WearError
from wearplan.ever import best_trip, is_trip, is_worths, mean_of, period, worths_of
from wearplan.leading import led, with_call, with_mark, with_part, with_price, with_shut
from wearplan.looking import LookPrices, best_move, least_risk, risk_of
from wearplan.ones import is_stretches, late_changes, needs, stretches
from wearplan.parts import Part, lasts, loss, worn
from wearplan.prices import bound, even_shares, is_shares, single_least
from wearplan.shares import Shared, chance_of_fall, total_of, weights_behind
from wearplan.signs import is_whole
from wearplan.tables import best_plan, is_table, least, table_of, worth_of
from wearplan.texts import read_part, read_plan, show_part, show_plan
from wearplan.walks import is_plan, price_of, walk
from wearplan.works import Works, cost_of, is_choice

PUMP = Part(5, 2, [1], 7)
BELT = Part(6, 0, [0, 3], 2)
WORKS = Works([PUMP, BELT], 5, [2])
HARD = Part(5, 3, [3], 1)
# For ever: one part that is changed each other round, for 3 and the call.
TURN = Works([Part(2, 0, [1], 3)], 1, [])
WORTHS = ((0, (0,), 0), (0, (1,), -4))
BULB = Shared(1, 0, [1, 1])
PRICES = LookPrices(1, 20, 50)
TABLE = (
    (((3, 4), 12),),
    (((2, 4), 12), ((2, 6), 12), ((4, 4), 0), ((4, 6), 0)),
    (((3, 1), 0), ((3, 3), 0), ((4, 1), 0), ((4, 3), 0)),
)

# Each function, arguments whose rows are lists, and the answer.
ASKED = (
    (is_whole, {"thing": 3, "least": 1, "most": 5}, True),
    (loss, {"part": BELT, "round_number": 3}, 3),
    (worn, {"part": PUMP, "stand": 5, "first": 1, "rounds": 2}, 3),
    (lasts, {"part": PUMP, "stand": 5, "first": 1, "most": 24}, 3),
    (is_choice, {"works": WORKS, "thing": [0, 1]}, True),
    (is_choice, {"works": WORKS, "thing": [[1], {"a": [0]}]}, False),
    (cost_of, {"works": WORKS, "choice": [0, 1]}, 14),
    (is_plan, {"works": WORKS, "thing": [[0], [], [0, 1]]}, True),
    (is_plan, {"works": WORKS, "thing": [[0], [], [[1], 0]]}, False),
    (price_of, {"works": WORKS, "plan": [[0], [], [0, 1]]}, 26),
    (walk, {"works": WORKS, "stands": [3, 4], "plan": [[], [0]], "first": 0}, ((3, 4), (2, 4), (4, 1))),
    (late_changes, {"part": PUMP, "stand": 3, "first": 2, "rounds": 6}, (3, 6)),
    (needs, {"part": PUMP, "stand": 3, "first": 2, "a": 3, "b": 5}, True),
    (needs, {"part": PUMP, "stand": 3, "first": 2, "a": 3, "b": 4}, False),
    (stretches, {"part": PUMP, "stand": 3, "first": 2, "rounds": 6}, ((2, 3), (4, 6))),
    (is_stretches, {"part": PUMP, "stand": 3, "first": 2, "rounds": 6, "thing": [[2, 3], [4, 6]]}, True),
    (is_stretches, {"part": PUMP, "stand": 3, "first": 2, "rounds": 6, "thing": [[2, 3], [4, [6]]]}, False),
    (least, {"works": WORKS, "stands": [2, 4], "first": 3, "rounds": 5}, 26),
    (best_plan, {"works": WORKS, "stands": [2, 4], "first": 3, "rounds": 5}, ((0,), (), (0, 1), (), ())),
    (table_of, {"works": WORKS, "stands": [3, 4], "first": 0, "rounds": 2}, TABLE),
    (is_table, {"works": WORKS, "stands": [3, 4], "first": 0, "rounds": 2, "thing": listed(TABLE)}, True),
    (is_table, {"works": WORKS, "stands": [3, 4], "first": 0, "rounds": 2, "thing": listed(TABLE[:2])}, False),
    (worth_of, {"table": TABLE}, 12),
    (single_least, {"part": PUMP, "stand": 3, "first": 1, "prices": [4, 2, 3, 9], "shut": [2]}, 7),
    (is_shares, {"works": WORKS, "thing": [[3, 2], [0, 5]]}, True),
    (is_shares, {"works": WORKS, "thing": [[3, 2], [0, [5]]]}, False),
    (even_shares, {"works": WORKS, "rounds": 2}, ((3, 2), (3, 2))),
    (bound, {"works": WORKS, "stands": [3, 4], "first": 0, "shares": [[3, 2], [0, 5], [5, 0]]}, 7),
    (led, {"works": WORKS, "stands": [3, 4], "plan": [[], [0], []], "done": 1, "first": 0}, ((2, 4), 1, ((0,), ()))),
    (period, {"works": WORKS}, 2),
    (is_trip, {"works": TURN, "stands": [0], "lead": [[0]], "trip": [[], [0]]}, True),
    (is_trip, {"works": TURN, "stands": [0], "lead": [[0]], "trip": [[], [[0]]]}, False),
    (best_trip, {"works": TURN, "stands": [0]}, ((), ((0,), ()))),
    (mean_of, {"works": TURN, "trip": [[0], []]}, (4, 2)),
    (worths_of, {"works": TURN, "stands": [0]}, WORTHS),
    (is_worths, {"works": TURN, "stands": [0], "price": 4, "rounds": 2, "thing": listed(WORTHS)}, True),
    (is_worths, {"works": TURN, "stands": [0], "price": 4, "rounds": 2, "thing": [[0, [0], [0]]]}, False),
    (total_of, {"part": BULB}, 2),
    (weights_behind, {"part": BULB, "stand": 0, "rounds": 2, "changes": [1]}, (1, 1, 2)),
    (chance_of_fall, {"part": BULB, "stand": 0, "rounds": 2, "changes": [1]}, (2, 4)),
    (risk_of, {"part": BULB, "weights": [1, 1], "prices": PRICES, "rounds": 1}, 44),
    (best_move, {"part": BULB, "weights": [1, 1], "prices": PRICES, "rounds": 1}, "look"),
    (least_risk, {"part": BULB, "stand": 0, "prices": PRICES, "rounds": 1}, 40),
    (show_plan, {"plan": [[], [0, 2]], "first": 3}, "rounds 2 from 3\n4: 0 2\n"),
    (read_plan, {"text": "rounds 2 from 3\n4: 0 2\n"}, (((), (0, 2)), 3)),
    (show_part, {"part": BELT}, "full 6 mark 0 price 2 wear 0 3"),
)
# Those that tell an object: what its fields are.
CHANGED = (
    (Part, {"full": 5, "mark": 2, "wear": [1, 0], "price": 7}, {"full": 5, "mark": 2, "wear": (1, 0), "price": 7}),
    (Works, {"parts": [PUMP], "call": 5, "shut": [2, 4]}, {"parts": (PUMP,), "call": 5, "shut": (2, 4)}),
    (Shared, {"full": 5, "mark": 2, "shares": [1, 0]}, {"full": 5, "mark": 2, "shares": (1, 0)}),
    (LookPrices, {"look": 1, "change": 20, "fall": 50}, {"look": 1, "change": 20, "fall": 50}),
    (read_part, {"text": "full 6 mark 0 price 2 wear 0 3"}, {"full": 6, "mark": 0, "wear": (0, 3), "price": 2}),
    (with_part, {"works": WORKS, "part": HARD}, {"parts": (PUMP, BELT, HARD), "call": 5, "shut": (2,)}),
    (with_mark, {"works": WORKS, "k": 0, "mark": 3}, {"parts": (Part(5, 3, [1], 7), BELT), "call": 5, "shut": (2,)}),
    (with_price, {"works": WORKS, "k": 1, "price": 3}, {"parts": (PUMP, Part(6, 0, [0, 3], 3)), "call": 5, "shut": (2,)}),
    (with_call, {"works": WORKS, "call": 9}, {"parts": (PUMP, BELT), "call": 9, "shut": (2,)}),
    (with_shut, {"works": WORKS, "round_number": 1}, {"parts": (PUMP, BELT), "call": 5, "shut": (1, 2)}),
)
REFUSED = (
    (Part, {"full": 5, "mark": 2, "wear": [1, [2]], "price": 7}),
    (Works, {"parts": [PUMP, None], "call": 5, "shut": [3, 2]}),
    (Works, {"parts": [PUMP], "call": 5, "shut": [3, 2]}),
    (cost_of, {"works": WORKS, "choice": [1, 0]}),
    (price_of, {"works": WORKS, "plan": [[0], [1, 0]]}),
    (walk, {"works": WORKS, "stands": [5, 7], "plan": [[0], [1, 0]], "first": 48}),
    (walk, {"works": WORKS, "stands": [5, 6], "plan": [[0], [1]], "first": 1}),
    (walk, {"works": WORKS, "stands": [2, 6], "plan": [[], [1]], "first": 3}),
    (is_stretches, {"part": PUMP, "stand": 9, "first": 2, "rounds": 6, "thing": [[2, 3]]}),
    (late_changes, {"part": HARD, "stand": 5, "first": 2, "rounds": 6}),
    (best_plan, {"works": Works([HARD], 5, []), "stands": [5], "first": 2, "rounds": 6}),
    (is_table, {"works": WORKS, "stands": [2, 4], "first": 3, "rounds": 9, "thing": [[[[2, 4], 12]]]}),
    (single_least, {"part": PUMP, "stand": 3, "first": 1, "prices": [4, [2]], "shut": [3, 2]}),
    (bound, {"works": WORKS, "stands": [3, 4], "first": 0, "shares": [[3, 2], [0, 6]]}),
    (led, {"works": WORKS, "stands": [3, 4], "plan": [[], [0], [1]], "done": [1], "first": 0}),
    (with_part, {"works": WORKS, "part": [PUMP]}),
    (with_mark, {"works": WORKS, "k": [0], "mark": [1]}),
    (with_price, {"works": WORKS, "k": 0, "price": [1]}),
    (with_call, {"works": WORKS, "call": [1]}),
    (with_shut, {"works": WORKS, "round_number": [2]}),
    (is_trip, {"works": WORKS, "stands": [5, 6], "lead": [[0], [1, [0]]], "trip": [[0]]}),
    (best_trip, {"works": Works([Part(4, 3, [3], 1)], 0, []), "stands": [4]}),
    (is_worths, {"works": TURN, "stands": [0], "price": [4], "rounds": 2, "thing": [[0, [0], 0]]}),
    (Shared, {"full": 5, "mark": 2, "shares": [0, [1]]}),
    (weights_behind, {"part": BULB, "stand": 0, "rounds": 2, "changes": [1, [0]]}),
    (chance_of_fall, {"part": BULB, "stand": 0, "rounds": [2], "changes": [1]}),
    (LookPrices, {"look": [1], "change": 20, "fall": 50}),
    (risk_of, {"part": BULB, "weights": [1, [1]], "prices": PRICES, "rounds": 1}),
    (best_move, {"part": BULB, "weights": [1, 1], "prices": PRICES, "rounds": [1]}),
    (least_risk, {"part": BULB, "stand": [0], "prices": PRICES, "rounds": 1}),
    (show_plan, {"plan": [[], [2, [0]]], "first": 3}),
    (read_plan, {"text": ["rounds 2 from 3"]}),
    (read_part, {"text": ["full 6 mark 0 price 2 wear 0 3"]}),
    (Desk, {"call": [5]}),
)


class ThingsTest(unittest.TestCase):
    def test_by_name_in_any_order_and_nothing_changed(self):
        for function, arguments, answer in ASKED:
            before = seen(arguments)
            with self.subTest(function=function.__name__):
                for told in by_names(function, **arguments):
                    self.assertEqual(seen(told), seen(answer))
                    self.assertTrue(is_told(told))
                self.assertEqual(seen(arguments), before)

    def test_objects_that_are_told(self):
        for function, arguments, answer in CHANGED:
            before = seen(arguments)
            kind = {read_part: Part}.get(function, function if isinstance(function, type) else Works)
            with self.subTest(function=function.__name__):
                for told in [*by_names(function, **arguments), function(*arguments.values())]:
                    self.assertIs(type(told), kind)
                    self.assertEqual(sorted(fields_of(told)), sorted(answer))
                    for name, value in answer.items():
                        self.assertEqual(seen(getattr(told, name)), seen(value))
                self.assertEqual(seen(arguments), before)

    def test_by_place(self):
        for function, arguments, answer in ASKED:
            self.assertEqual(function(*arguments.values()), answer)

    def test_what_is_refused_is_not_changed_and_refused_each_time(self):
        for function, arguments in REFUSED:
            before = seen(arguments)
            errors = []
            for again in range(3):
                with self.subTest(function=function.__name__), self.assertRaises(WearError) as caught:
                    function(**arguments)
                errors.append(seen(caught.exception))
            self.assertEqual(errors, errors[:1] * 3)
            self.assertEqual(seen(arguments), before)

    def test_a_desks_methods_by_name_and_nothing_changed(self):
        for turned in (False, True):
            desk = Desk(call=5)
            for method, arguments, answer in (
                (desk.add, {"part": PUMP}, 0),
                (desk.add, {"part": BELT}, 1),
                (desk.set_mark, {"k": 0, "mark": 1}, True),
                (desk.set_mark, {"k": 0, "mark": 1}, False),
                (desk.shut_round, {"round_number": 2}, True),
                (desk.go, {"choice": [0, 1]}, (4, 6)),
                (desk.told, {}, (1, (4, 6), 14)),
                (desk.plan, {"rounds": 3}, ((), (), ())),
            ):
                before = seen(arguments)
                order = list(arguments.items())[::-1] if turned else arguments.items()
                told = method(**dict(order))
                self.assertEqual(seen(told), seen(answer))
                self.assertTrue(is_told(told))
                self.assertEqual(seen(arguments), before)
            self.assertEqual(seen(desk.works()), seen(Works([Part(5, 1, [1], 7), BELT], 5, [2])))

    def test_every_function_of_the_interface_is_asked_here(self):
        asked = {function.__name__ for function, *others in ASKED + CHANGED} | {"Desk"}
        errors = INTERFACE["wearplan.errors"]
        self.assertEqual(asked, {name for names in INTERFACE.values() for name in names if name not in errors})

    def test_lists_changed_behind_the_call_change_no_answer(self):
        stands, plan = [3, 4], [[], [0]]
        path = walk(WORKS, stands, plan, 0)
        table = table_of(WORKS, stands, 0, 2)
        stands[0] = 9
        plan[1].append(1)
        plan.clear()
        self.assertEqual(path, ((3, 4), (2, 4), (4, 1)))
        self.assertEqual(table[0][0][0], (3, 4))


if __name__ == "__main__":
    unittest.main()
