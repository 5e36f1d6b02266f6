import unittest
from itertools import combinations, product

from helper import NOT_ROWS, NOT_WHOLE, ODD_ROWS, by_names, choices_by_hand, fields_of, is_told
from wearplan.errors import NoPlan, NoWorks
from wearplan.parts import Part
from wearplan.works import Works, cost_of, is_choice

GREAT = 10 ** 40
PARTS = [Part(5, 1, [1, 0], 7), Part(9, 9, [0], 0), Part(1, 0, (1,), 99), Part(3, 2, [1, 2, 3], 20)]
RIGHT = {"parts": PARTS[:2], "call": 5, "shut": [0, 3]}
ORDER = ("parts", "call", "shut")
WRONG = {
    "parts": (
        PARTS + PARTS[:1], tuple(PARTS) * 2, [PARTS[0]] * 5, [None] * 5, [PARTS[0], None], [None, PARTS[0]],
        [PARTS[0], (5, 1, [1, 0], 7)], [PARTS], [(PARTS[0],)], (PARTS[0], "part"), PARTS[0], {0: PARTS[0]},
        {"full": 5, "mark": 1, "wear": [1, 0], "price": 7}, [0], (1, 2), *NOT_ROWS, *ODD_ROWS,
    ),
    "call": (-1, 100, GREAT, -GREAT, *NOT_WHOLE),
    "shut": (
        [-1], [48], [0, 48], [-1, 3], [GREAT], [3, 3], [0, 0], [4, 3], [0, 2, 1], [47, 0], (1, 2, 2, 3),
        list(range(48)) + [47], list(range(49)), [True], [False, 2], [0, True], [None], ["1"], [[1]], [{}],
        *NOT_ROWS, *ODD_ROWS,
    ),
}


def works_of(many, call=5, shut=()):
    return Works(PARTS[:many], call, shut)


def is_choice_by_hand(many, thing):
    """Another way to tell: among all choices, kinds of numbers looked at, too."""
    if not isinstance(thing, (list, tuple)) or any(type(entry) is not int for entry in thing):
        return False
    return tuple(thing) in choices_by_hand(many)


class WorksTest(unittest.TestCase):
    def refused_at(self, **fields):
        with self.assertRaises(NoWorks) as caught:
            Works(**fields)
        return caught.exception.at

    def test_fields_at_their_bounds(self):
        shuts = ((), (0,), (47,), (0, 47), (5, 6, 9), tuple(range(48)))
        for many, call, shut in product(range(5), (0, 1, 98, 99), shuts):
            for row in (list, tuple):
                works = Works(row(PARTS[:many]), call, row(shut))
                self.assertEqual(fields_of(works), {"parts": tuple(PARTS[:many]), "call": call, "shut": shut})
                self.assertIs(type(works.parts), tuple)
                self.assertIs(type(works.shut), tuple)
                self.assertTrue(is_told(works.shut) and is_told(works.call))

    def test_the_parts_are_those_handed_in(self):
        works = Works([PARTS[1], PARTS[0], PARTS[1]], 5, [])
        self.assertEqual([part.full for part in works.parts], [9, 5, 9])
        self.assertTrue(all(isinstance(part, Part) for part in works.parts))

    def test_lists_changed_behind_the_call(self):
        parts, shut = PARTS[:2], [0, 3]
        works = Works(parts, 5, shut)
        self.assertEqual((parts, shut), (PARTS[:2], [0, 3]))
        parts.append(PARTS[2])
        parts[0] = None
        shut[0] = 2
        shut.append(1)
        self.assertEqual((works.parts, works.shut), (tuple(PARTS[:2]), (0, 3)))
        self.assertIs(is_choice(works, [2]), False)
        self.assertEqual(cost_of(works, [0, 1]), 12)
        parts.clear()
        shut.clear()
        self.assertEqual((works.parts, works.shut), (tuple(PARTS[:2]), (0, 3)))
        self.assertIs(is_choice(works, [1]), True)

    def test_each_wrong_field(self):
        for at, field in enumerate(ORDER):
            for thing in WRONG[field]:
                with self.subTest(field=field, thing=thing):
                    self.assertEqual(self.refused_at(**{**RIGHT, field: thing}), at)

    def test_several_wrong_tell_the_first(self):
        some = {field: (WRONG[field][0], None, True, "x", {}, GREAT) for field in ORDER}
        for wrong in product((False, True), repeat=3):
            for k in range(6):
                fields = {field: some[field][k] if bad else RIGHT[field] for field, bad in zip(ORDER, wrong)}
                if any(wrong):
                    with self.subTest(fields):
                        self.assertEqual(self.refused_at(**fields), wrong.index(True))

    def test_what_is_refused_is_not_changed(self):
        shut = [1, [2, {"a": [3]}]]
        self.assertEqual(self.refused_at(**{**RIGHT, "shut": shut}), 2)
        self.assertEqual(shut, [1, [2, {"a": [3]}]])

    def test_by_name_in_any_order(self):
        for works in by_names(Works, **RIGHT):
            self.assertEqual(fields_of(works), {"parts": tuple(PARTS[:2]), "call": 5, "shut": (0, 3)})


class ChoiceTest(unittest.TestCase):
    def test_all_choices_as_lists_and_as_tuples(self):
        for many in range(5):
            choices = choices_by_hand(many)
            self.assertEqual(len(choices), 2 ** many)
            for choice in choices:
                self.assertIs(is_choice(works_of(many), choice), True)
                self.assertIs(is_choice(works_of(many), list(choice)), True)

    def test_all_short_rows_of_numbers_and_truths(self):
        entries = (-1, 0, 1, 2, 3, 4, True, False)
        for many, size in product(range(5), range(4)):
            for thing in product(entries, repeat=size):
                answer = is_choice_by_hand(many, thing)
                self.assertIs(is_choice(works_of(many), thing), answer)
                self.assertIs(is_choice(works_of(many), list(thing)), answer)

    def test_out_of_bounds_not_rising_told_twice(self):
        for many in range(5):
            wrong = ([many], [-1], [GREAT], [-GREAT], [0, many], [-1, 0], [0, 0], [1, 0], [1, 1], [2, 1], [0, 1, 1],
                     [0, 2, 1], [3, 2, 1, 0], [0, 1, 2, 3, 4], [0, 0, 1, 2], [True], [False], [0, True], [False, 1])
            for thing in wrong:
                with self.subTest(many=many, thing=thing):
                    self.assertIs(is_choice(works_of(many), thing), False)
                    self.assertIs(is_choice(works_of(many), tuple(thing)), False)

    def test_other_things_are_none(self):
        for many, thing in product(range(5), (*NOT_ROWS, *ODD_ROWS, PARTS, [PARTS[0]])):
            with self.subTest(many=many, thing=thing):
                self.assertIs(is_choice(works_of(many), thing), False)

    def test_shut_rounds_do_not_matter(self):
        self.assertIs(is_choice(works_of(2, shut=tuple(range(48))), (0, 1)), True)


class CostTest(unittest.TestCase):
    def test_every_choice(self):
        prices = (7, 0, 99, 20)
        for many, call in product(range(5), (0, 1, 99)):
            for choice in choices_by_hand(many):
                answer = sum(prices[k] for k in choice) + (call if choice else 0)
                for row in (list, tuple):
                    self.assertEqual(cost_of(works_of(many, call), row(choice)), answer)

    def test_without_a_choice_no_call(self):
        self.assertEqual(cost_of(works_of(0, 99), ()), 0)
        self.assertEqual(cost_of(works_of(4, 99), []), 0)

    def test_with_a_choice_one_call(self):
        self.assertEqual(cost_of(works_of(4, 5), [1]), 5)
        self.assertEqual(cost_of(works_of(4, 5), [0]), 12)
        self.assertEqual(cost_of(works_of(4, 5), [0, 1, 2, 3]), 131)

    def test_several_together_cost_no_more_than_apart(self):
        for call in (0, 5, 99):
            works = works_of(4, call)
            for one, other in combinations(choices_by_hand(4), 2):
                if not set(one) & set(other):
                    together = cost_of(works, sorted(one + other))
                    apart = cost_of(works, one) + cost_of(works, other)
                    self.assertEqual(together, apart - (call if one and other else 0))

    def test_no_choice(self):
        for many in range(5):
            for thing in (*NOT_ROWS, *ODD_ROWS, [many], [-1], [0, 0], [1, 0], [True], [False], (0, True)):
                with self.subTest(many=many, thing=thing), self.assertRaises(NoPlan) as caught:
                    cost_of(works_of(many), thing)
                self.assertEqual(fields_of(caught.exception), {"at": 0})


if __name__ == "__main__":
    unittest.main()
