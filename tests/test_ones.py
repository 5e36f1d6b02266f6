import random
import unittest
from itertools import combinations, product

from helper import NOT_ROWS, NOT_WHOLE, ODD_ROWS, bent, is_told, listed, mixed
from wearplan.errors import NoneHolds, NoRounds, NoStands
from wearplan.ones import is_stretches, late_changes, needs, stretches
from wearplan.parts import Part

GREAT = 10 ** 40
NEVER = Part(9, 9, [0], 1)
EVEN = Part(5, 2, [1], 1)
HARD = Part(5, 2, [0, 4], 1)
WRONG_STANDS = (1, 6, -1, GREAT, -GREAT, *NOT_WHOLE)
WRONG_FIRSTS = (-1, 48, GREAT, -GREAT, *NOT_WHOLE)
WRONG_ROUNDS = (-1, 25, GREAT, -GREAT, *NOT_WHOLE)


def loss_by_hand(part, first, behind):
    """What the part loses from the beginning of round first to that of round behind."""
    return sum(part.wear[at % len(part.wear)] for at in range(first, behind))


def stands_all(part, stand, first, rounds, changes):
    """Tell whether the part never falls, being changed just there; losses are never below 0."""
    for at in range(first, first + rounds):
        before = [change for change in changes if change <= at]
        left = part.full - loss_by_hand(part, before[-1], at + 1) if before else \
            stand - loss_by_hand(part, first, at + 1)
        if left < part.mark:
            return False
    return True


def fewest(part, stand, first, rounds):
    """The fewest changes, from stand to stand, or None if none hold."""
    many = {stand: 0}
    for at in range(first, first + rounds):
        behind = {}
        for before, changes in many.items():
            for beginning, more in ((before, changes), (part.full, changes + 1)):
                left = beginning - loss_by_hand(part, at, at + 1)
                if left >= part.mark:
                    behind[left] = min(behind.get(left, more), more)
        many = behind
    return min(many.values(), default=None)


def needs_by_hand(part, stand, first, a, b):
    if a == first:
        return stand - loss_by_hand(part, first, b + 1) < part.mark
    return part.full - loss_by_hand(part, a - 1, b + 1) < part.mark


def is_stretches_by_hand(part, stand, first, rounds, thing):
    if not isinstance(thing, (list, tuple)):
        return False
    ends = []
    for entry in thing:
        if not isinstance(entry, (list, tuple)) or [type(number) for number in entry] != [int, int]:
            return False
        ends += entry
    rising = all(low <= high if k % 2 == 0 else low < high for k, (low, high) in enumerate(zip(ends, ends[1:])))
    if not rising or not all(first <= end < first + rounds for end in ends):
        return False
    return all(needs_by_hand(part, stand, first, a, b) for a, b in thing)


def some_runs():
    """Parts with wear of one to six numbers, each with stands from mark to full, firsts and rounds at their ends."""
    source = random.Random(4)
    for again in range(600):
        full = source.randint(1, 9)
        mark = source.choice((0, 0, 0, 1, full))
        most = source.choice((1, 2, full - min(mark, full) + 1, 9))
        wear = [source.randint(0, min(most, 9)) for k in range(again % 6 + 1)]
        part = Part(full, min(mark, full), wear, 1)
        stand = source.choice((part.mark, part.full, source.randint(part.mark, part.full)))
        yield part, stand, source.choice((0, 1, 5, 46, 47)), source.choice((0, 1, 2, 6, 23, 24))


class LateChangesTest(unittest.TestCase):
    def test_a_part_that_never_falls(self):
        for first, rounds in product((0, 47), (0, 1, 24)):
            self.assertEqual(late_changes(NEVER, 9, first, rounds), ())
        self.assertEqual(late_changes(Part(9, 0, [0, 0, 0, 0, 0, 2], 1), 9, 0, 24), ())

    def test_one_that_falls_in_the_first_round(self):
        for first in (0, 47):
            self.assertEqual(late_changes(EVEN, 2, first, 1), (first,))
            self.assertEqual(late_changes(EVEN, 2, first, 4), (first, first + 3))
            self.assertEqual(late_changes(EVEN, 2, first, 0), ())

    def test_by_hand(self):
        self.assertEqual(late_changes(EVEN, 5, 0, 3), ())
        self.assertEqual(late_changes(EVEN, 5, 0, 4), (3,))
        self.assertEqual(late_changes(EVEN, 5, 0, 24), (3, 6, 9, 12, 15, 18, 21))
        self.assertEqual(late_changes(EVEN, 3, 47, 24), (48, 51, 54, 57, 60, 63, 66, 69))
        self.assertEqual(late_changes(Part(9, 0, [1, 0, 3, 0, 0, 5], 1), 9, 0, 12), (6,))
        self.assertEqual(late_changes(Part(9, 0, [1, 0, 3, 0, 0, 5], 1), 0, 1, 12), (2, 8))
        self.assertEqual(late_changes(Part(3, 0, [3], 1), 3, 0, 24), tuple(range(1, 24)))

    def test_one_that_falls_though_it_is_changed(self):
        self.assertEqual(late_changes(HARD, 5, 0, 1), ())
        for stand, first, rounds in product((2, 5), (0, 1, 46, 47), (2, 24)):
            with self.assertRaises(NoneHolds):
                late_changes(HARD, stand, first, rounds)
        with self.assertRaises(NoneHolds):
            late_changes(HARD, 5, 47, 1)

    def test_just_where_it_would_fall_and_none_are_fewer(self):
        many = 0
        for part, stand, first, rounds in some_runs():
            answer = fewest(part, stand, first, rounds)
            if answer is None:
                with self.assertRaises(NoneHolds):
                    late_changes(part, stand, first, rounds)
                continue
            told = late_changes(part, stand, first, rounds)
            many += len(told) > 1
            self.assertTrue(is_told(told) and type(told) is tuple)
            self.assertEqual(len(told), answer)
            self.assertEqual(list(told), sorted(set(told) & set(range(first, first + rounds))))
            self.assertTrue(stands_all(part, stand, first, rounds, told))
            for k, change in enumerate(told):
                self.assertTrue(stands_all(part, stand, first, change - first, told[:k]))
                self.assertFalse(stands_all(part, stand, first, change - first + 1, told[:k]))
        self.assertGreater(many, 100)

    def test_against_all_ways_of_few_rounds(self):
        for wear in ((1,), (0, 1), (2, 0, 1), (1, 3), (0, 0, 4), (5,)):
            for mark, first, rounds in product((0, 1, 2), (0, 1, 47), range(7)):
                part = Part(4, mark, wear, 1)
                for stand in range(mark, 5):
                    ways = [len(way) for size in range(rounds + 1)
                            for way in combinations(range(first, first + rounds), size)
                            if stands_all(part, stand, first, rounds, way)]
                    if ways:
                        self.assertEqual(len(late_changes(part, stand, first, rounds)), min(ways))
                        self.assertEqual(len(stretches(part, stand, first, rounds)), min(ways))
                    else:
                        self.assertRaises(NoneHolds, late_changes, part, stand, first, rounds)
                        self.assertRaises(NoneHolds, stretches, part, stand, first, rounds)


class NeedsTest(unittest.TestCase):
    def test_from_first_on_with_the_told_stand(self):
        for first in (0, 47):
            self.assertEqual([needs(EVEN, 5, first, first, first + k) for k in range(5)], [False] * 3 + [True] * 2)
            self.assertEqual([needs(EVEN, 3, first, first, first + k) for k in range(3)], [False, True, True])
            self.assertIs(needs(EVEN, 2, first, first, first), True)

    def test_above_first_full_one_round_before(self):
        for first, stand in product((0, 47), (2, 5)):
            self.assertEqual([needs(EVEN, stand, first, first + 1, first + k) for k in range(1, 5)],
                             [False, False, True, True])
            self.assertIs(needs(EVEN, stand, first, first + 9, first + 9), False)
            self.assertIs(needs(EVEN, stand, first, first + 9, first + 11), True)

    def test_falling_in_the_round_before_a(self):
        self.assertIs(needs(HARD, 5, 0, 2, 2), True)
        self.assertIs(needs(HARD, 5, 0, 1, 1), True)
        self.assertIs(needs(HARD, 5, 0, 0, 0), False)
        self.assertIs(needs(Part(5, 2, [0, 0, 4, 0], 1), 5, 0, 1, 1), False)
        self.assertIs(needs(Part(5, 2, [0, 0, 4, 0], 1), 5, 0, 3, 3), True)

    def test_up_to_the_last_round(self):
        late = Part(4, 1, [0, 0, 0, 0, 0, 1], 1)
        self.assertIs(needs(late, 4, 0, 0, 23), True)
        self.assertIs(needs(late, 4, 0, 0, 22), False)
        self.assertIs(needs(late, 4, 0, 1, 23), True)
        self.assertIs(needs(late, 1, 0, 6, 23), True)
        self.assertIs(needs(late, 1, 0, 7, 23), False)
        self.assertIs(needs(late, 1, 0, 23, 23), False)
        for first in (0, 47):
            self.assertIs(needs(NEVER, 9, first, first, first + 23), False)
            self.assertIs(needs(NEVER, 9, first, first + 23, first + 23), False)

    def test_against_another_way(self):
        for part, stand, first, rounds in some_runs():
            for a, b in ((0, 0), (0, 1), (1, 1), (1, 2), (0, 7), (3, 9), (0, 23), (1, 23), (22, 23), (23, 23)):
                told = needs(part, stand, first, first + a, first + b)
                self.assertIs(told, needs_by_hand(part, stand, first, first + a, first + b))

    def test_a_and_b_that_are_none(self):
        for first in (0, 10, 47):
            wrong = [(first - 1, first), (first - 1, first - 1), (first, first - 1), (first + 1, first),
                     (first + 5, first + 4), (first, first + 24), (first + 24, first + 24), (first + 23, first + 24),
                     (first + 24, first + 23), (-GREAT, first), (first, GREAT), (GREAT, GREAT), (GREAT, first)]
            wrong += [(thing, first + 3) for thing in NOT_WHOLE] + [(first, thing) for thing in NOT_WHOLE]
            wrong += [(thing, thing) for thing in NOT_WHOLE]
            for a, b in wrong:
                with self.subTest(first=first, a=a, b=b), self.assertRaises(NoRounds):
                    needs(EVEN, 5, first, a, b)

    def test_the_told_stand_and_first_that_are_none(self):
        for stand in WRONG_STANDS:
            for first, a, b in ((0, 0, 3), (0, 2, 3), (48, 48, 49), (None, 0, 1), (0, 3, 2), (0, None, "x"), (0, 0, 24)):
                with self.subTest(stand=stand, first=first, a=a, b=b), self.assertRaises(NoStands):
                    needs(EVEN, stand, first, a, b)
        for first in WRONG_FIRSTS:
            for a, b in ((0, 0), (48, 49), (first, first), (-1, 2), (None, None)):
                with self.subTest(first=first, a=a, b=b), self.assertRaises(NoRounds):
                    needs(EVEN, 5, first, a, b)


class StretchesTest(unittest.TestCase):
    def test_by_hand(self):
        for row in ((), [], ((0, 3),), [[0, 4]], ((0, 3), (4, 6)), [(0, 3), [5, 7], (8, 10)], ((1, 3), (4, 6)),
                    ((3, 5), (6, 8), (9, 11)), ((0, 11),)):
            self.assertIs(is_stretches(EVEN, 5, 0, 12, row), True)
        for row in (((0, 2),), ((1, 2),), ((0, 3), (4, 5)), ((0, 3), (3, 6)), ((4, 6), (0, 3)), ((0, 12),),
                    ((9, 12),), ((-1, 3),), ((3, 0),), ((0, 3), (0, 3)), ((0, 3, 3),), ((0,),), ((),), (0, 3)):
            self.assertIs(is_stretches(EVEN, 5, 0, 12, row), False)

    def test_first_is_the_least_round(self):
        self.assertIs(is_stretches(EVEN, 2, 5, 4, [[5, 5], [6, 8]]), True)
        self.assertIs(is_stretches(EVEN, 2, 5, 4, [[4, 8]]), False)
        self.assertIs(is_stretches(EVEN, 2, 5, 4, [[5, 9]]), False)
        self.assertIs(is_stretches(EVEN, 2, 47, 24, [[47, 70]]), True)
        self.assertIs(is_stretches(EVEN, 2, 47, 24, [[47, 71]]), False)

    def test_no_rounds_leave_the_empty_row_alone(self):
        for first in (0, 47):
            self.assertIs(is_stretches(EVEN, 2, first, 0, []), True)
            self.assertIs(is_stretches(EVEN, 2, first, 0, [[first, first]]), False)
            self.assertEqual(stretches(EVEN, 2, first, 0), ())

    def test_as_many_as_late_changes_and_all_need_one(self):
        for part, stand, first, rounds in some_runs():
            if fewest(part, stand, first, rounds) is None:
                with self.assertRaises(NoneHolds):
                    stretches(part, stand, first, rounds)
                continue
            told = stretches(part, stand, first, rounds)
            self.assertTrue(is_told(told) and type(told) is tuple)
            self.assertEqual(len(told), len(late_changes(part, stand, first, rounds)))
            self.assertTrue(is_stretches_by_hand(part, stand, first, rounds, told))
            for row in (told, listed(told), mixed(told)):
                self.assertIs(is_stretches(part, stand, first, rounds, row), True)

    def test_bent_in_one_place(self):
        answers = {True: 0, False: 0}
        for part, stand, first, rounds in some_runs():
            if fewest(part, stand, first, rounds) is None:
                continue
            told = stretches(part, stand, first, rounds)
            for thing in bent(told):
                answer = is_stretches_by_hand(part, stand, first, rounds, thing)
                answers[answer] += 1
                self.assertIs(is_stretches(part, stand, first, rounds, thing), answer)
        self.assertGreater(min(answers.values()), 500)

    def test_truths_stand_for_no_numbers(self):
        self.assertIs(is_stretches(EVEN, 2, 0, 9, [[0, 1]]), True)
        for row in ([[False, 1]], [[0, True]], [[False, True]], [[False, False]]):
            self.assertIs(is_stretches(EVEN, 2, 0, 9, row), False)

    def test_a_above_b_is_no_stretch(self):
        # Though the part falls in round 1 whatever is done, no stretch ends before it begins.
        self.assertIs(is_stretches(HARD, 5, 0, 6, [[1, 2]]), True)
        for row in ([[2, 1]], [[1, 0]], [[0, 1], [3, 2]], [[4, 1]]):
            self.assertIs(is_stretches(HARD, 5, 0, 6, row), False)

    def test_things_that_are_none(self):
        for thing in (*NOT_ROWS, *ODD_ROWS, ["03"], [{0: 0, 1: 3}], {(0, 3): 1}, [[0, 3], None], [[[0, 3]]], [[0, [3]]]):
            with self.subTest(thing=thing):
                self.assertIs(is_stretches(EVEN, 2, 0, 12, thing), False)

    def test_no_way_has_fewer_changes(self):
        # Any such row is a bound from below, not only the longest.
        for part, first in product((EVEN, Part(4, 0, [0, 3], 1), Part(3, 1, [1, 0, 1], 1)), (0, 1)):
            pairs = [(a, b) for a in range(first, first + 6) for b in range(a, first + 6)]
            for stand, row in product(range(part.mark, part.full + 1), [(), *combinations(pairs, 1),
                                                                       *combinations(pairs, 2)]):
                if is_stretches(part, stand, first, 6, row):
                    self.assertLessEqual(len(row), fewest(part, stand, first, 6))


class RunRefusalsTest(unittest.TestCase):
    def asked(self, stand, first, rounds):
        """Each function that is handed a run, as calls without arguments."""
        yield lambda: late_changes(EVEN, stand, first, rounds)
        yield lambda: stretches(EVEN, stand, first, rounds)
        for thing in ([], ((0, 3),), None, True, [[None]], "x", {}):
            yield lambda: is_stretches(EVEN, stand, first, rounds, thing)

    def test_no_stands(self):
        for stand in WRONG_STANDS:
            for first, rounds in ((0, 9), (48, 9), (0, 25), (None, None), (True, False)):
                for ask in self.asked(stand, first, rounds):
                    with self.subTest(stand=stand, first=first, rounds=rounds), self.assertRaises(NoStands):
                        ask()

    def test_no_rounds(self):
        runs = [(first, 9) for first in WRONG_FIRSTS] + [(0, rounds) for rounds in WRONG_ROUNDS]
        for first, rounds in runs + list(zip(WRONG_FIRSTS, WRONG_ROUNDS)):
            for ask in self.asked(5, first, rounds):
                with self.subTest(first=first, rounds=rounds), self.assertRaises(NoRounds):
                    ask()

    def test_ahead_of_none_holds(self):
        for asked in (late_changes, stretches):
            self.assertRaises(NoStands, asked, HARD, 1, 0, 24)
            self.assertRaises(NoRounds, asked, HARD, 5, 48, 24)
            self.assertRaises(NoRounds, asked, HARD, 5, 0, 25)
            self.assertRaises(NoneHolds, asked, HARD, 5, 0, 24)

    def test_is_stretches_answers_where_none_holds(self):
        self.assertIs(is_stretches(HARD, 5, 0, 24, []), True)
        self.assertIs(is_stretches(HARD, 5, 0, 24, [[1, 1], [2, 2]]), True)


if __name__ == "__main__":
    unittest.main()
