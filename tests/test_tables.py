import random
import time
import unittest
from itertools import product

from helper import (
    NOT_ROWS, NOT_WHOLE, ODD_ROWS, bent, best_by_hand, fields_of, is_told, listed, mixed, plans_by_hand, small_asks,
    small_works, walk_by_hand,
)
from wearplan.errors import NoneHolds, NoRounds, NoStands, TooGreat, WearError
from wearplan.parts import Part
from wearplan.tables import best_plan, is_table, least, table_of, worth_of
from wearplan.walks import price_of, walk
from wearplan.works import Works

GREAT = 10 ** 40
PUMP = Part(5, 2, [1], 7)
BELT = Part(6, 0, [0, 3], 2)
ROCK = Part(4, 4, [0], 9)
NO_PARTS = Works([], 5, [1])


def table_by_hand(works, stands, first, rounds):
    """The table, each stands' worth found by going through all plans of the rounds left."""
    table = []
    for k in range(rounds + 1):
        walks = [walk_by_hand(works, stands, plan, first) for plan in plans_by_hand(len(works.parts), k)]
        coming = sorted({told[1][-1] for told in walks if told[0] == "holds"})
        bests = [best_by_hand(works, behind, first + k, rounds - k) for behind in coming]
        table.append(tuple((behind, best[0] if best else -1) for behind, best in zip(coming, bests)))
    return tuple(table)


class LeastTest(unittest.TestCase):
    def test_by_hand(self):
        works = Works([PUMP, BELT], 5, [])
        self.assertEqual(least(works, [5, 6], 0, 3), 0)
        self.assertEqual(best_plan(works, [5, 6], 0, 3), ((), (), ()))
        # One call for both: the pump falls in round 3, the belt in round 5.
        self.assertEqual(least(works, [5, 6], 0, 6), 14)
        self.assertEqual(best_plan(works, [5, 6], 0, 6), ((), (), (), (0, 1), (), ()))
        self.assertEqual(least(works, [2, 0], 1, 1), 14)
        self.assertEqual(best_plan(works, [2, 0], 1, 1), ((0, 1),))

    def test_earlier_where_a_call_is_saved(self):
        works = Works([Part(2, 0, [1], 1), Part(6, 0, [1], 90)], 1, [])
        self.assertEqual(least(works, [2, 1], 0, 7), 90 + 3 + 3)
        self.assertEqual(best_plan(works, [2, 1], 0, 7), ((), (0, 1), (), (0,), (), (0,), ()))

    def test_the_first_of_one_price(self):
        free = Works([Part(3, 0, [1], 0), Part(3, 0, [1], 0)], 0, [])
        self.assertEqual(best_plan(free, [3, 3], 0, 3), ((), (), ()))
        self.assertEqual(best_plan(free, [3, 3], 0, 4), ((), (), (), (0, 1)))
        self.assertEqual(best_plan(free, [0, 3], 0, 4), ((0,), (), (), (0, 1)))
        self.assertEqual(best_plan(free, [3, 0], 0, 4), ((0, 1), (), (), (0, 1)))
        # The same price in any of the rounds: as late as can be, nothing chosen coming first.
        paid = Works([Part(3, 0, [1], 4)], 2, [])
        self.assertEqual(best_plan(paid, [3], 0, 5), ((), (), (), (0,), ()))

    def test_shut_rounds(self):
        for shut, price, plan in (
            ([], 6, ((), (), (), (0,), ())), ([3], 6, ((), (), (0,), (), ())), ([4], 6, ((), (), (), (0,), ())),
            ([2, 3], 12, ((), (0,), (), (), (0,))), ([0, 1, 2], 6, ((), (), (), (0,), ())),
        ):
            works = Works([Part(4, 1, [1], 4)], 2, shut)
            self.assertEqual(least(works, [4], 0, 5), price)
            self.assertEqual(best_plan(works, [4], 0, 5), plan)

    def test_rounds_behind_the_last_that_may_be_shut(self):
        works = Works([Part(1, 0, [1], 4)], 2, [47])
        self.assertEqual(best_plan(works, [1], 47, 8), ((),) + ((0,),) * 7)
        self.assertRaises(NoneHolds, best_plan, works, [0], 47, 8)
        self.assertRaises(NoneHolds, least, works, [1], 46, 2)

    def test_without_parts_and_without_rounds(self):
        for first, rounds in product((0, 47), range(9)):
            self.assertEqual(least(NO_PARTS, [], first, rounds), 0)
            self.assertEqual(best_plan(NO_PARTS, (), first, rounds), ((),) * rounds)
        hard = Works([Part(1, 1, [1], 4)], 2, [])
        for first in (0, 47):
            self.assertEqual(least(hard, [1], first, 0), 0)
            self.assertEqual(best_plan(hard, [1], first, 0), ())

    def test_none_holds(self):
        for works, stands, first, rounds in (
            (Works([Part(5, 3, [3], 1)], 0, []), [5], 0, 1),
            (Works([Part(5, 3, [0, 0, 0, 0, 0, 3], 1)], 0, []), [5], 0, 6),
            (Works([ROCK, Part(1, 0, [1], 1)], 0, [3]), [4, 1], 2, 2),
            (Works([ROCK, Part(1, 0, [1], 1)], 0, [3]), [4, 0], 3, 1),
            (Works([Part(4, 1, [1], 4)], 2, [1, 2, 3]), [4], 0, 4),
        ):
            self.assertRaises(NoneHolds, least, works, stands, first, rounds)
            self.assertRaises(NoneHolds, best_plan, works, stands, first, rounds)
            self.assertGreaterEqual(least(works, stands, first, rounds - 1), 0)

    def test_against_all_plans(self):
        kept, lost, paid = 0, 0, 0
        for works, stands, first, rounds in small_asks(400, (8, 8, 4, 3)):
            answer = best_by_hand(works, stands, first, rounds)
            if answer is None:
                lost += 1
                self.assertRaises(NoneHolds, least, works, stands, first, rounds)
                self.assertRaises(NoneHolds, best_plan, works, stands, first, rounds)
                continue
            kept += 1
            paid += answer[0] > 0
            self.assertEqual(least(works, stands, first, rounds), answer[0])
            for row in (stands, list(stands)):
                plan = best_plan(works, row, first, rounds)
                self.assertTrue(is_told(plan))
                self.assertEqual(plan, answer[1])
        self.assertGreater(min(kept, lost, paid), 40)

    def test_great_works_by_what_they_promise(self):
        source = random.Random(2)
        for again in range(40):
            works = small_works(source, 3)
            stands = tuple(source.randint(part.mark, part.full) for part in works.parts)
            first = source.choice((0, 13, 47))
            try:
                plan = best_plan(works, stands, first, 8)
            except NoneHolds:
                self.assertRaises(NoneHolds, least, works, stands, first, 8)
                continue
            self.assertEqual(len(plan), 8)
            walk(works, stands, plan, first)
            self.assertEqual(price_of(works, plan), least(works, stands, first, 8))


class TableTest(unittest.TestCase):
    def test_by_hand(self):
        works = Works([Part(2, 0, [1], 3)], 1, [])
        self.assertEqual(
            table_of(works, [2], 0, 3),
            ((((2,), 4),), (((1,), 4),), (((0,), 4), ((1,), 0)), (((0,), 0), ((1,), 0))))
        self.assertEqual(table_of(works, [2], 0, 0), ((((2,), 0),),))

    def test_worths_of_stands_from_which_none_holds(self):
        works = Works([Part(2, 0, [1], 3)], 1, [2])
        self.assertEqual(
            table_of(works, [2], 0, 3),
            ((((2,), 4),), (((1,), 4),), (((0,), -1), ((1,), 0)), (((0,), 0),)))

    def test_no_stands_can_come(self):
        works = Works([Part(5, 3, [0, 3], 3)], 1, [])
        self.assertEqual(table_of(works, [4], 0, 3), ((((4,), -1),), (((4,), -1), ((5,), -1)), (), ()))
        self.assertEqual(worth_of(table_of(works, [4], 0, 3)), -1)

    def test_without_parts(self):
        for first, rounds in product((0, 47), range(9)):
            self.assertEqual(table_of(NO_PARTS, [], first, rounds), ((((), 0),),) * (rounds + 1))

    def test_by_rising_stands(self):
        works = Works([Part(6, 0, [1, 0, 2], 3), Part(6, 0, [2, 1], 1), Part(5, 0, [1], 0)], 1, [3])
        table = table_of(works, [6, 5, 4], 0, 8)
        self.assertEqual(len(table), 9)
        for entry in table:
            coming = [stands for stands, worth in entry]
            self.assertEqual(coming, sorted(set(coming)))
        self.assertGreater(len(table[8]), 20)

    def test_against_all_plans(self):
        for works, stands, first, rounds in small_asks(200, (6, 5, 3, 2)):
            answer = table_by_hand(works, stands, first, rounds)
            for row in (stands, list(stands)):
                table = table_of(works, row, first, rounds)
                self.assertTrue(is_told(table))
                self.assertEqual(table, answer)
            self.assertIs(is_table(works, stands, first, rounds, answer), True)

    def test_worth_of_against_least(self):
        none, some = 0, 0
        for works, stands, first, rounds in small_asks(300, (8, 8, 8, 8)):
            worth = worth_of(table_of(works, stands, first, rounds))
            try:
                price = least(works, stands, first, rounds)
                some += 1
            except NoneHolds:
                price = -1
                none += 1
            self.assertEqual(worth, price)
            self.assertIs(type(worth), int)
        self.assertGreater(min(none, some), 40)


class IsTableTest(unittest.TestCase):
    def test_as_tuples_and_as_lists(self):
        for works, stands, first, rounds in small_asks(200, (8, 8, 8, 4)):
            table = table_of(works, stands, first, rounds)
            for thing in (table, listed(table), mixed(table), list(table), tuple(listed(table))):
                self.assertIs(is_table(works, stands, first, rounds, thing), True)

    def test_bent_in_one_place(self):
        many = 0
        for works, stands, first, rounds in small_asks(60, (3, 4, 3, 2)):
            things = bent(table_of(works, stands, first, rounds))
            many += len(things)
            for thing in things:
                self.assertIs(is_table(works, stands, first, rounds, thing), False)
                self.assertIs(is_table(works, stands, first, rounds, listed(thing)), False)
        self.assertGreater(many, 5000)

    def test_truths_stand_for_no_numbers(self):
        works = Works([Part(1, 0, [0], 1)], 0, [])
        self.assertIs(is_table(works, [1], 0, 1, [[[[1], 0]], [[[1], 0]]]), True)
        for thing in ([[[[True], 0]], [[[1], 0]]], [[[[1], False]], [[[1], 0]]], [[[[1], 0]], [[[True], False]]]):
            self.assertIs(is_table(works, [1], 0, 1, thing), False)

    def test_the_table_of_another_question(self):
        works = Works([PUMP, BELT], 5, [4])
        table = table_of(works, [4, 4], 1, 4)
        self.assertIs(is_table(works, [4, 4], 1, 4, table), True)
        self.assertIs(is_table(works, [4, 4], 1, 3, table), False)
        self.assertIs(is_table(works, [4, 4], 2, 4, table), False)
        self.assertIs(is_table(works, [4, 5], 1, 4, table), False)
        self.assertIs(is_table(Works([PUMP, BELT], 4, [4]), [4, 4], 1, 4, table), False)
        self.assertIs(is_table(Works([PUMP, BELT], 5, []), [4, 4], 1, 4, table), False)

    def test_things_that_are_none(self):
        things = (*NOT_ROWS, *ODD_ROWS, [[[]]], [[[[]]]], [[[[], None]]], [[[[5, 6], 0]], None], [[[[[5, 6]]]]],
                  {0: {0: ((5, 6), 0)}}, [{(5, 6): 0}], ["5", "6"])
        for thing in things:
            for rounds in (0, 1, 3):
                with self.subTest(thing=thing, rounds=rounds):
                    self.assertIs(is_table(Works([PUMP, BELT], 5, []), [5, 6], 0, rounds, thing), False)
                    self.assertIs(is_table(NO_PARTS, [], 0, rounds, thing), False)


class RefusalsTest(unittest.TestCase):
    great = Part(7, 0, [1], 1)
    works = Works([PUMP, BELT], 5, [])
    too_many = Works([PUMP, BELT, ROCK, ROCK], 5, [])
    too_great = Works([PUMP, Part(9, 0, [1], 1)], 5, [])
    wrong_stands = (
        *NOT_ROWS, *ODD_ROWS, [], [5], [5, 6, 6], [1, 6], [6, 6], [5, 7], [5, -1], [5, True], [False, 6], [5, None],
        [5, "6"], [[5, 6]], [5, GREAT], {0: 5, 1: 6}, "56",
    )

    def asked(self, works, stands, first, rounds):
        """What each of the functions raises, each told once."""
        told = []
        for ask in (least, best_plan, table_of):
            with self.assertRaises(WearError) as caught:
                ask(works, stands, first, rounds)
            told.append(caught.exception)
        for thing in ([], None, True, [[[[5, 6], 0]]], {}, "x"):
            with self.assertRaises(WearError) as caught:
                is_table(works, stands, first, rounds, thing)
            told.append(caught.exception)
        kinds = {(type(error), tuple(fields_of(error).values())) for error in told}
        self.assertEqual(len(kinds), 1)
        return kinds.pop()

    def test_no_stands(self):
        for stands in self.wrong_stands:
            for first, rounds in ((0, 3), (48, 3), (0, 25), (0, 9), (None, True)):
                with self.subTest(stands=stands, first=first, rounds=rounds):
                    self.assertEqual(self.asked(self.works, stands, first, rounds), (NoStands, ()))
        for thing in (*NOT_ROWS, *ODD_ROWS, [0]):
            self.assertEqual(self.asked(NO_PARTS, thing, 0, 3), (NoStands, ()))

    def test_no_rounds(self):
        for thing in (-1, GREAT, -GREAT, *NOT_WHOLE):
            self.assertEqual(self.asked(self.works, [5, 6], thing, 3), (NoRounds, ()))
            self.assertEqual(self.asked(self.works, [5, 6], 0, thing), (NoRounds, ()))
            self.assertEqual(self.asked(self.works, [5, 6], thing, 9), (NoRounds, ()))
            self.assertEqual(self.asked(self.works, [5, 6], thing, thing), (NoRounds, ()))
        self.assertEqual(self.asked(self.works, [5, 6], 48, 3), (NoRounds, ()))
        self.assertEqual(self.asked(self.works, [5, 6], 0, 25), (NoRounds, ()))

    def test_too_great(self):
        self.assertEqual(self.asked(self.too_many, [5, 6, 4, 4], 0, 3), (TooGreat, (3,)))
        self.assertEqual(self.asked(self.too_great, [5, 6], 0, 3), (TooGreat, (6,)))
        for full, k in product((7, 8, 9), range(3)):
            parts = [BELT, BELT, BELT]
            parts[k] = Part(full, 0, [1], 1)
            self.assertEqual(self.asked(Works(parts, 5, []), [0, 0, 0], 47, 0), (TooGreat, (6,)))
        for rounds in (9, 10, 23, 24):
            self.assertEqual(self.asked(self.works, [5, 6], 0, rounds), (TooGreat, (8,)))
            self.assertEqual(self.asked(NO_PARTS, [], 47, rounds), (TooGreat, (8,)))

    def test_not_yet_too_great(self):
        for many, full, rounds in product(range(4), (1, 6), (0, 8)):
            works = Works([Part(full, 0, [0], 1)] * many, 5, [])
            self.assertEqual(least(works, [full] * many, 47, rounds), 0)

    def test_two_at_once_tell_the_first(self):
        both = Works([PUMP, BELT, ROCK, self.great], 5, [])
        self.assertEqual(self.asked(both, [5, 6, 4, 7], 0, 9), (TooGreat, (3,)))
        self.assertEqual(self.asked(both, [5, 6, 4, 7], 0, 3), (TooGreat, (3,)))
        self.assertEqual(self.asked(self.too_many, [5, 6, 4, 4], 0, 24), (TooGreat, (3,)))
        self.assertEqual(self.asked(self.too_great, [5, 6], 0, 9), (TooGreat, (6,)))
        for works, stands in ((both, [5, 6, 4, 7]), (self.too_many, [5, 6, 4, 4]), (self.too_great, [5, 9])):
            for first, rounds in ((48, 3), (0, 25), (True, 9), (-1, None)):
                self.assertEqual(self.asked(works, stands, first, rounds), (NoRounds, ()))
            for wrong in ([], None, [5, 6, 4], [-1, 0], [5, 6, 4, 8]):
                self.assertEqual(self.asked(works, wrong, 0, 3), (NoStands, ()))
                self.assertEqual(self.asked(works, wrong, 48, 9), (NoStands, ()))

    def test_ahead_of_none_holds(self):
        hard = Works([Part(5, 3, [3], 1)], 0, [])
        self.assertRaises(NoneHolds, least, hard, [5], 0, 8)
        self.assertEqual(self.asked(hard, [2], 0, 8), (NoStands, ()))
        self.assertEqual(self.asked(hard, [5], 48, 8), (NoRounds, ()))
        self.assertEqual(self.asked(hard, [5], 0, 9), (TooGreat, (8,)))
        self.assertEqual(self.asked(Works([Part(9, 8, [3], 1)], 0, []), [9], 0, 8), (TooGreat, (6,)))


class GreatestTest(unittest.TestCase):
    def test_the_greatest_works_are_answered_soon(self):
        # Behind round 5 all stands there are can have come.
        works = Works([Part(6, 0, [1, 1, 1, 1, 1, 0], price) for price in (1, 2, 3)], 4, [])
        stands = [5, 5, 5]
        begun = time.monotonic()
        table = table_of(works, stands, 0, 8)
        self.assertEqual(len(table[6]), 343)
        self.assertIs(is_table(works, stands, 0, 8, table), True)
        self.assertEqual(least(works, stands, 0, 8), worth_of(table))
        self.assertEqual(price_of(works, best_plan(works, stands, 0, 8)), worth_of(table))
        self.assertLess(time.monotonic() - begun, 4)


if __name__ == "__main__":
    unittest.main()
