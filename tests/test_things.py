"""What holds for all that is asked: names in any order, nothing changed, the same each time, made of told things."""

import unittest

from helper import by_names, is_told, listed, seen
from wearplan.errors import WearError
from wearplan.ones import is_stretches, late_changes, needs, stretches
from wearplan.parts import Part, lasts, loss, worn
from wearplan.signs import is_whole
from wearplan.tables import best_plan, is_table, least, table_of, worth_of
from wearplan.walks import is_plan, price_of, walk
from wearplan.works import Works, cost_of, is_choice

PUMP = Part(5, 2, [1], 7)
BELT = Part(6, 0, [0, 3], 2)
WORKS = Works([PUMP, BELT], 5, [2])
HARD = Part(5, 3, [3], 1)
TABLE = (
    (((3, 4), 12),),
    (((2, 4), 12), ((2, 6), 12), ((4, 4), 0), ((4, 6), 0)),
    (((3, 1), 0), ((3, 3), 0), ((4, 1), 0), ((4, 3), 0)),
)

# Each function, arguments whose rows are lists, and the answer.
ASKED = (
    (is_whole, {"thing": 3, "least": 1, "most": 5}, True),
    (loss, {"part": BELT, "round_number": 3}, 3),
    (worn, {"part": PUMP, "stand": 5, "first": 1, "rounds": 2}, 3),
    (lasts, {"part": PUMP, "stand": 5, "first": 1, "most": 24}, 3),
    (is_choice, {"works": WORKS, "thing": [0, 1]}, True),
    (is_choice, {"works": WORKS, "thing": [[1], {"a": [0]}]}, False),
    (cost_of, {"works": WORKS, "choice": [0, 1]}, 14),
    (is_plan, {"works": WORKS, "thing": [[0], [], [0, 1]]}, True),
    (is_plan, {"works": WORKS, "thing": [[0], [], [[1], 0]]}, False),
    (price_of, {"works": WORKS, "plan": [[0], [], [0, 1]]}, 26),
    (walk, {"works": WORKS, "stands": [3, 4], "plan": [[], [0]], "first": 0}, ((3, 4), (2, 4), (4, 1))),
    (late_changes, {"part": PUMP, "stand": 3, "first": 2, "rounds": 6}, (3, 6)),
    (needs, {"part": PUMP, "stand": 3, "first": 2, "a": 3, "b": 5}, True),
    (needs, {"part": PUMP, "stand": 3, "first": 2, "a": 3, "b": 4}, False),
    (stretches, {"part": PUMP, "stand": 3, "first": 2, "rounds": 6}, ((2, 3), (4, 6))),
    (is_stretches, {"part": PUMP, "stand": 3, "first": 2, "rounds": 6, "thing": [[2, 3], [4, 6]]}, True),
    (is_stretches, {"part": PUMP, "stand": 3, "first": 2, "rounds": 6, "thing": [[2, 3], [4, [6]]]}, False),
    (least, {"works": WORKS, "stands": [2, 4], "first": 3, "rounds": 5}, 26),
    (best_plan, {"works": WORKS, "stands": [2, 4], "first": 3, "rounds": 5}, ((0,), (), (0, 1), (), ())),
    (table_of, {"works": WORKS, "stands": [3, 4], "first": 0, "rounds": 2}, TABLE),
    (is_table, {"works": WORKS, "stands": [3, 4], "first": 0, "rounds": 2, "thing": listed(TABLE)}, True),
    (is_table, {"works": WORKS, "stands": [3, 4], "first": 0, "rounds": 2, "thing": listed(TABLE[:2])}, False),
    (worth_of, {"table": TABLE}, 12),
)
REFUSED = (
    (Part, {"full": 5, "mark": 2, "wear": [1, [2]], "price": 7}),
    (Works, {"parts": [PUMP, None], "call": 5, "shut": [3, 2]}),
    (Works, {"parts": [PUMP], "call": 5, "shut": [3, 2]}),
    (cost_of, {"works": WORKS, "choice": [1, 0]}),
    (price_of, {"works": WORKS, "plan": [[0], [1, 0]]}),
    (walk, {"works": WORKS, "stands": [5, 7], "plan": [[0], [1, 0]], "first": 48}),
    (walk, {"works": WORKS, "stands": [5, 6], "plan": [[0], [1]], "first": 1}),
    (walk, {"works": WORKS, "stands": [2, 6], "plan": [[], [1]], "first": 3}),
    (is_stretches, {"part": PUMP, "stand": 9, "first": 2, "rounds": 6, "thing": [[2, 3]]}),
    (late_changes, {"part": HARD, "stand": 5, "first": 2, "rounds": 6}),
    (best_plan, {"works": Works([HARD], 5, []), "stands": [5], "first": 2, "rounds": 6}),
    (is_table, {"works": WORKS, "stands": [2, 4], "first": 3, "rounds": 9, "thing": [[[[2, 4], 12]]]}),
)


class ThingsTest(unittest.TestCase):
    def test_by_name_in_any_order_and_nothing_changed(self):
        for function, arguments, answer in ASKED:
            before = seen(arguments)
            with self.subTest(function=function.__name__):
                for told in by_names(function, **arguments):
                    self.assertEqual(seen(told), seen(answer))
                    self.assertTrue(is_told(told))
                self.assertEqual(seen(arguments), before)

    def test_by_place(self):
        for function, arguments, answer in ASKED:
            self.assertEqual(function(*arguments.values()), answer)

    def test_what_is_refused_is_not_changed_and_refused_each_time(self):
        for function, arguments in REFUSED:
            before = seen(arguments)
            errors = []
            for again in range(3):
                with self.subTest(function=function.__name__), self.assertRaises(WearError) as caught:
                    function(**arguments)
                errors.append(seen(caught.exception))
            self.assertEqual(errors, errors[:1] * 3)
            self.assertEqual(seen(arguments), before)

    def test_lists_changed_behind_the_call_change_no_answer(self):
        stands, plan = [3, 4], [[], [0]]
        path = walk(WORKS, stands, plan, 0)
        table = table_of(WORKS, stands, 0, 2)
        stands[0] = 9
        plan[1].append(1)
        plan.clear()
        self.assertEqual(path, ((3, 4), (2, 4), (4, 1)))
        self.assertEqual(table[0][0][0], (3, 4))


if __name__ == "__main__":
    unittest.main()
