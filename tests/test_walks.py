import random
import unittest
from itertools import product

from helper import (
    NOT_ROWS, NOT_WHOLE, ODD_ROWS, choices_by_hand, fields_of, is_told, listed, mixed, plans_by_hand, price_by_hand,
    walk_by_hand,
)
from wearplan.errors import Falls, NoPlan, NoRounds, NoStands, Shut, WearError
from wearplan.parts import Part
from wearplan.walks import is_plan, price_of, walk
from wearplan.works import Works

GREAT = 10 ** 40
PUMP = Part(5, 2, [1], 7)
BELT = Part(9, 0, [0, 3], 20)
LAMP = Part(1, 0, [0, 0, 1], 0)
ROCK = Part(4, 4, [0], 99)
PARTS = [PUMP, BELT, LAMP, ROCK]
WORKS = Works(PARTS, 5, [2])
NO_PARTS = Works([], 5, [1])
# What is no choice of any works.
NO_CHOICES = (*NOT_ROWS, *ODD_ROWS, [-1], [4], [1, 0], [1, 1], (0, 2, 1), [True], [False], (0, True))


def random_works(source):
    parts = []
    for k in range(source.randrange(5)):
        full = source.randint(1, 9)
        wear = [source.choice((0, 0, 1, 1, 2, 3)) for k in range(source.randint(1, 6))]
        parts.append(Part(full, source.randint(0, min(full, 3)), wear, source.randint(0, 9)))
    shut = sorted(source.sample(range(48), source.choice((0, 1, 5, 20))))
    return Works(parts, source.randint(0, 9), shut)


class PlanTest(unittest.TestCase):
    def refused_at(self, works, plan):
        with self.assertRaises(NoPlan) as caught:
            price_of(works, plan)
        return caught.exception.at

    def test_plans_of_every_length(self):
        for rounds in range(25):
            for choice in choices_by_hand(4):
                plan = (choice,) * rounds
                for row in (plan, listed(plan), mixed(plan), list(plan), tuple(listed(plan))):
                    self.assertIs(is_plan(WORKS, row), True)
                    self.assertEqual(price_of(WORKS, row), price_by_hand(WORKS, plan))

    def test_prices_by_hand(self):
        self.assertEqual(price_of(WORKS, []), 0)
        self.assertEqual(price_of(WORKS, [[]] * 24), 0)
        self.assertEqual(price_of(WORKS, [[0], [], (0, 1)]), 12 + 32)
        self.assertEqual(price_of(WORKS, [[2]] * 24), 120)
        self.assertEqual(price_of(WORKS, [[0, 1, 2, 3]]), 131)
        self.assertEqual(price_of(NO_PARTS, [()] * 3), 0)

    def test_prices_of_all_short_plans(self):
        for many, call in product(range(4), (0, 1, 99)):
            works = Works(PARTS[:many], call, [0, 1])
            for plan in plans_by_hand(many, 2):
                self.assertEqual(price_of(works, plan), price_by_hand(works, plan))

    def test_whether_it_holds_does_not_matter(self):
        self.assertIs(is_plan(WORKS, [[]] * 24), True)
        self.assertIs(is_plan(Works(PARTS, 5, list(range(48))), [[0]] * 24), True)

    def test_no_row_or_too_many_entries(self):
        for works in (WORKS, NO_PARTS):
            for thing in (*NOT_ROWS, [[]] * 25, [()] * 26, ((),) * 25, [[0, 0]] * 25, [None] * 25, ([],) * 24 + ([9],)):
                with self.subTest(thing=thing):
                    self.assertIs(is_plan(works, thing), False)
                    self.assertEqual(self.refused_at(works, thing), -1)

    def test_the_first_entry_that_is_no_choice(self):
        for thing in NO_CHOICES:
            for k, rounds in ((0, 1), (0, 3), (2, 3), (23, 24), (0, 24), (11, 24)):
                plan = [[0]] * rounds
                plan[k] = thing
                with self.subTest(plan=plan):
                    self.assertIs(is_plan(WORKS, plan), False)
                    self.assertEqual(self.refused_at(WORKS, plan), k)
                    self.assertEqual(self.refused_at(WORKS, tuple(plan)), k)

    def test_the_first_of_two_wrong_entries(self):
        for one, other in product(NO_CHOICES, (None, [7], [0, 0], True, "")):
            self.assertEqual(self.refused_at(WORKS, [[], one, (0,), other]), 1)
            self.assertEqual(self.refused_at(WORKS, ([], (0,), other, one)), 2)

    def test_choices_are_those_of_the_works(self):
        for many in range(5):
            works = Works(PARTS[:many], 5, [])
            for k in range(4):
                self.assertIs(is_plan(works, [[], [k]]), k < many)
            self.assertEqual(self.refused_at(works, [[], [many]]), 1)

    def test_odd_things(self):
        for thing in ODD_ROWS:
            answer = thing in ([[]], [()], ((),), [[0]], ((0,),))
            self.assertIs(is_plan(WORKS, thing), answer)


class WalkTest(unittest.TestCase):
    def refusal(self, works, stands, plan, first):
        with self.assertRaises(WearError) as caught:
            walk(works, stands, plan, first)
        return type(caught.exception), fields_of(caught.exception)

    def test_without_changes(self):
        self.assertEqual(
            walk(WORKS, [5, 9, 1, 4], [[], [], []], 0), ((5, 9, 1, 4), (4, 9, 1, 4), (3, 6, 1, 4), (2, 6, 0, 4)))

    def test_with_changes(self):
        self.assertEqual(
            walk(WORKS, (2, 0, 0, 4), ((0, 1), (2,), ()), 3), ((2, 0, 0, 4), (4, 6, 0, 4), (3, 6, 1, 4), (2, 3, 0, 4)))

    def test_changed_first_and_then_lost(self):
        works = Works([Part(6, 1, [2], 1)], 0, [])
        self.assertEqual(walk(works, [1], [[0]], 0), ((1,), (4,)))
        self.assertEqual(walk(works, [6], [[0], [], [0]], 47), ((6,), (4,), (2,), (4,)))

    def test_no_rounds(self):
        for first in (0, 2, 47):
            for stands in ([2, 0, 0, 4], (5, 9, 1, 4)):
                self.assertEqual(walk(WORKS, stands, [], first), (tuple(stands),))

    def test_24_rounds_from_both_ends(self):
        works = Works([Part(9, 0, [0, 0, 0, 0, 0, 2], 1), Part(4, 0, [1], 1)], 0, [])
        for first in (0, 47):
            plan = [[1] if k % 4 == 0 else [] for k in range(24)]
            told = walk(works, [9, 0], plan, first)
            self.assertEqual(len(told), 25)
            self.assertEqual([stands[1] for stands in told], [0] + [3, 2, 1, 0] * 6)
            losses = [2 if at % 6 == 5 else 0 for at in range(first, first + 24)]
            self.assertEqual([stands[0] for stands in told], [9 - sum(losses[:k]) for k in range(25)])

    def test_without_parts(self):
        self.assertEqual(walk(NO_PARTS, [], [[], (), []], 0), ((), (), (), ()))
        self.assertEqual(walk(NO_PARTS, (), [], 47), ((),))
        self.assertEqual(walk(NO_PARTS, (), [[]] * 24, 47), ((),) * 25)

    def test_a_change_in_a_shut_round(self):
        for first in range(3):
            plan = [[], [], []]
            plan[2 - first] = [3]
            self.assertEqual(self.refusal(WORKS, [5, 9, 1, 4], plan, first), (Shut, {"round_number": 2}))
        last = Works([ROCK], 0, [0, 47])
        self.assertEqual(self.refusal(last, [4], [[0]], 0), (Shut, {"round_number": 0}))
        self.assertEqual(self.refusal(last, [4], [[], (0,), [0]], 46), (Shut, {"round_number": 47}))
        self.assertEqual(self.refusal(last, [4], [(0,), [0]], 47), (Shut, {"round_number": 47}))
        self.assertEqual(walk(last, [4], [[], [0], [0]], 47), ((4,),) * 4)

    def test_the_first_of_two_shut_rounds(self):
        works = Works([ROCK], 0, [1, 3, 5])
        self.assertEqual(self.refusal(works, [4], [[0], [], [0], [0], [0], [0]], 0), (Shut, {"round_number": 3}))

    def test_nothing_chosen_in_a_shut_round_holds(self):
        works = Works([ROCK], 0, list(range(48)))
        self.assertEqual(walk(works, [4], [[]] * 24, 0), ((4,),) * 25)

    def test_a_part_that_falls(self):
        self.assertEqual(
            self.refusal(WORKS, [2, 9, 1, 4], [[]], 0), (Falls, {"round_number": 0, "part_number": 0}))
        self.assertEqual(
            self.refusal(WORKS, [5, 9, 0, 4], [[], [], [], []], 0), (Falls, {"round_number": 2, "part_number": 2}))
        self.assertEqual(
            self.refusal(WORKS, [5, 9, 0, 4], [[], []], 47), (Falls, {"round_number": 47, "part_number": 2}))
        self.assertEqual(
            self.refusal(WORKS, [5, 9, 1, 4], [[], [], [], []], 47), (Falls, {"round_number": 50, "part_number": 0}))

    def test_at_the_mark_it_stands(self):
        works = Works([PUMP], 0, [])
        self.assertEqual(walk(works, [3], [[]], 0), ((3,), (2,)))
        self.assertEqual(self.refusal(works, [3], [[], []], 0)[0], Falls)

    def test_a_part_that_falls_though_it_is_changed(self):
        works = Works([ROCK, Part(5, 3, [3], 1)], 0, [])
        self.assertEqual(self.refusal(works, [4, 5], [[1]], 9), (Falls, {"round_number": 9, "part_number": 1}))

    def test_two_parts_that_fall_at_once_tell_the_least(self):
        works = Works([ROCK, PUMP, PUMP], 0, [])
        self.assertEqual(
            self.refusal(works, [4, 3, 3], [[], []], 6), (Falls, {"round_number": 7, "part_number": 1}))
        self.assertEqual(
            self.refusal(works, [4, 3, 2], [[], []], 6), (Falls, {"round_number": 6, "part_number": 2}))
        self.assertEqual(
            self.refusal(works, [4, 2, 2], [[1]], 6), (Falls, {"round_number": 6, "part_number": 2}))

    def test_shut_and_falling(self):
        works = Works([PUMP, ROCK], 0, [3])
        self.assertEqual(self.refusal(works, [2, 4], [[1]], 3), (Shut, {"round_number": 3}))
        self.assertEqual(self.refusal(works, [2, 4], [[0]], 3), (Shut, {"round_number": 3}))
        self.assertEqual(
            self.refusal(works, [2, 4], [[], [1]], 2), (Falls, {"round_number": 2, "part_number": 0}))
        self.assertEqual(self.refusal(works, [3, 4], [[], [1]], 2), (Shut, {"round_number": 3}))
        self.assertEqual(self.refusal(works, [3, 4], [[1], []], 3), (Shut, {"round_number": 3}))
        self.assertEqual(
            self.refusal(works, [2, 4], [[], []], 3), (Falls, {"round_number": 3, "part_number": 0}))

    def test_against_another_way(self):
        source = random.Random(9)
        words = set()
        for again in range(3000):
            works = random_works(source)
            stands = [source.randint(part.mark, part.full) for part in works.parts]
            choices = choices_by_hand(len(works.parts))
            plan = tuple(source.choice(choices) for k in range(source.choice((0, 1, 2, 5, 24))))
            first = source.choice((0, 1, 20, 46, 47))
            answer = walk_by_hand(works, stands, plan, first)
            words.add(answer[0])
            for rows in (plan, listed(plan), mixed(plan)):
                if answer[0] == "holds":
                    told = walk(works, stands, rows, first)
                    self.assertTrue(is_told(told))
                    self.assertEqual(told, answer[1])
                elif answer[0] == "shut":
                    self.assertEqual(self.refusal(works, stands, rows, first), (Shut, {"round_number": answer[1]}))
                else:
                    self.assertEqual(self.refusal(works, stands, rows, first),
                                     (Falls, {"round_number": answer[1], "part_number": answer[2]}))
        self.assertEqual(words, {"holds", "shut", "falls"})


class WalkRefusalsTest(unittest.TestCase):
    right = {"works": WORKS, "stands": [5, 9, 1, 4], "plan": [[0], []], "first": 0}
    wrong = {
        "stands": (
            *NOT_ROWS, *ODD_ROWS, [], (), [5], [5, 9, 1], [5, 9, 1, 4, 4], [1, 9, 1, 4], [6, 9, 1, 4], [5, -1, 1, 4],
            [5, 10, 1, 4], [5, 9, 2, 4], [5, 9, 1, 3], [5, 9, 1, 5], [5, 9, True, 4], [5, False, 1, 4],
            [5, 9, None, 4], [5, 9, "1", 4], [5, 9, [1], 4], [[5, 9, 1, 4]], [5, GREAT, 1, 4], [-GREAT, 9, 1, 4],
            {0: 5, 1: 9, 2: 1, 3: 4}, "5914",
        ),
        "first": (-1, 48, GREAT, -GREAT, *NOT_WHOLE),
        "plan": (*NOT_ROWS, [[]] * 25, [[], None], [[0], [4]], [True], [[0, 0]]),
    }
    errors = {"stands": NoStands, "first": NoRounds, "plan": NoPlan}

    def refused(self, **others):
        with self.assertRaises(WearError) as caught:
            walk(**{**self.right, **others})
        return caught.exception

    def test_each_refusal(self):
        self.assertEqual(len(walk(**self.right)), 3)
        for name, things in self.wrong.items():
            for thing in things:
                with self.subTest(name=name, thing=thing):
                    self.assertIs(type(self.refused(**{name: thing})), self.errors[name])

    def test_where_the_plan_is_none(self):
        for plan, at in ((None, -1), ([[]] * 25, -1), ([None] * 25, -1), ([[], [4]], 1), ([[0], True, None], 1)):
            self.assertEqual(fields_of(self.refused(plan=plan)), {"at": at})

    def test_stands_of_works_without_parts(self):
        for thing in (*NOT_ROWS, *ODD_ROWS, [0]):
            with self.subTest(thing=thing), self.assertRaises(NoStands):
                walk(NO_PARTS, thing, [], 0)

    def test_two_at_once_tell_the_first(self):
        names = ("stands", "first", "plan")
        for k, name in enumerate(names):
            for other in names[k + 1:]:
                for thing, thing_too in product(self.wrong[name], self.wrong[other]):
                    self.assertIs(type(self.refused(**{name: thing, other: thing_too})), self.errors[name])

    def test_ahead_of_shut_and_falling(self):
        # Each of these plans would be refused in its first round already.
        for plan in ([[0], []], [[], []]):
            works = Works([PUMP, ROCK], 0, [3])
            self.assertIn(type(self.refused(works=works, stands=[2, 4], plan=plan, first=3)), (Shut, Falls))
            self.assertIs(type(self.refused(works=works, stands=[1, 4], plan=plan, first=3)), NoStands)
            self.assertIs(type(self.refused(works=works, stands=[2, 4], plan=plan, first=48)), NoRounds)
            self.assertEqual(
                fields_of(self.refused(works=works, stands=[2, 4], plan=plan + [[2]], first=3)), {"at": 2})


if __name__ == "__main__":
    unittest.main()
