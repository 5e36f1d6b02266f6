import random
import unittest
from itertools import product

from helper import (
    GREAT, NOT_ROWS, NOT_WHOLE, ODD_ROWS, check_refusals, choices_by_hand, fields_of, is_told, listed, mixed,
    refusal_of, seen, small_asks, walk_by_hand,
)
from wearplan.errors import Falls, NoneHolds, NoPart, NoPlan, NoRounds, NoStands, NotTold, NoWorks, Shut, TooGreat
from wearplan.leading import led, with_call, with_mark, with_part, with_price, with_shut
from wearplan.parts import Part
from wearplan.tables import best_plan, least
from wearplan.walks import price_of
from wearplan.works import Works

PUMP = Part(5, 2, [1], 7)
BELT = Part(6, 0, [0, 3], 2)
ROCK = Part(4, 4, [0], 9)
LAMP = Part(1, 0, [0, 0, 1], 0)
WORKS = Works([PUMP, BELT], 5, [2])
NO_PARTS = Works([], 5, [])
NO_STANDS = (
    *NOT_ROWS, *ODD_ROWS, [], [5], [5, 6, 6], [1, 6], [6, 6], [5, 7], [5, -1], [5, True], [False, 6], [5, None],
    [5, "6"], [[5, 6]], [5, GREAT],
)


class LedTest(unittest.TestCase):
    def test_none_some_and_all_done(self):
        plan = ((), (0,), (), (1,))
        path = ((3, 4), (2, 4), (4, 1), (3, 1), (2, 3))
        for done in range(5):
            for rows in (plan, listed(plan), mixed(plan), list(plan)):
                told = led(WORKS, [3, 4], rows, done, 0)
                self.assertEqual(told, (path[done], done, plan[done:]))
                self.assertTrue(is_told(told))

    def test_the_first_round_counts(self):
        self.assertEqual(led(WORKS, (3, 4), [[], [0], [1]], 2, 45), ((4, 1), 47, ((1,),)))
        self.assertEqual(led(WORKS, (3, 4), [[], [0], [1]], 3, 47), ((3, 3), 50, ()))

    def test_no_rounds(self):
        for first in (0, 2, 47):
            self.assertEqual(led(WORKS, [5, 6], [], 0, first), ((5, 6), first, ()))
            self.assertEqual(led(NO_PARTS, [], [[]] * 24, 24, first), ((), first + 24, ()))
            self.assertEqual(led(NO_PARTS, (), ([],) * 24, 0, first), ((), first, ((),) * 24))

    def test_refused_behind_the_done_rounds(self):
        for done in range(5):
            self.assertEqual(refusal_of(led, WORKS, [3, 4], [[], [0], [1], []], done, 0), (Shut, 2))
            self.assertEqual(refusal_of(led, WORKS, [3, 4], [[], [0], [], []], done, 0), (Falls, 3, 1))
            self.assertEqual(refusal_of(led, WORKS, [3, 4], [[], [0], [], [2]], done, 0), (NoPlan, 3))

    def test_a_done_that_is_none(self):
        for done in (-1, 4, 5, 24, GREAT, -GREAT, *NOT_WHOLE):
            with self.subTest(done=done):
                self.assertEqual(refusal_of(led, WORKS, [3, 4], [[], [0], []], done, 0), (NoRounds,))
                self.assertEqual(refusal_of(led, WORKS, [3, 4], [[], [0], [1]], done, 0), (Shut, 2))
                self.assertEqual(refusal_of(led, WORKS, [3, 4], [[], [], []], done, 0), (Falls, 1, 0))
                self.assertEqual(refusal_of(led, WORKS, [3, 4], [[], [0], [], [1, 0]], done, 0), (NoPlan, 3))
                self.assertEqual(refusal_of(led, WORKS, [3, 4], [[]] * 25, done, 0), (NoPlan, -1))
        self.assertEqual(refusal_of(led, WORKS, [3, 4], [], 1, 0), (NoRounds,))

    def test_refusals(self):
        right = {"works": WORKS, "stands": [3, 4], "plan": [[], [0]], "done": 1, "first": 0}
        check_refusals(self, led, right, (
            ("stands", NO_STANDS, (NoStands,)),
            ("first", (-1, 48, GREAT, -GREAT, *NOT_WHOLE), (NoRounds,)),
            ("plan", (*NOT_ROWS, [[]] * 25, [None] * 25), (NoPlan, -1)),
            ("plan", ([[], None], [[0], [2]], [[], [True]], [[], [0, 0]], [[], [1, 0], None]), (NoPlan, 1)),
            ("done", (-1, 3, GREAT, -GREAT, *NOT_WHOLE), (NoRounds,)),
        ))

    def test_against_another_way(self):
        source = random.Random(16)
        words = set()
        for works, stands, first, rounds in small_asks(600, (24, 12, 6, 6)):
            choices = choices_by_hand(len(works.parts))
            plan = tuple(source.choice(choices) for k in range(rounds))
            done = source.randint(0, rounds)
            answer = walk_by_hand(works, stands, plan, first)
            words.add(answer[0])
            if answer[0] == "holds":
                self.assertEqual(led(works, stands, plan, done, first), (answer[1][done], first + done, plan[done:]))
            else:
                refusal = {"shut": Shut, "falls": Falls}[answer[0]]
                self.assertEqual(refusal_of(led, works, stands, plan, done, first), (refusal, *answer[1:]))
        self.assertEqual(words, {"holds", "shut", "falls"})

    def test_what_is_left_of_the_best_plan_is_best(self):
        paid = 0
        for works, stands, first, rounds in small_asks(200, (8, 8, 8, 8)):
            # Round 47 is the last that may be a first one.
            first = min(first, 40)
            if refusal_of(best_plan, works, stands, first, rounds) == (NoneHolds,):
                continue
            plan = best_plan(works, stands, first, rounds)
            for done in range(rounds + 1):
                behind, at, left = led(works, stands, plan, done, first)
                if at <= 47:
                    self.assertEqual(price_of(works, left), least(works, behind, at, len(left)))
                    self.assertEqual(left, best_plan(works, behind, at, len(left)))
                    paid += price_of(works, left) > 0
        self.assertGreater(paid, 100)


class ChangedWorksTest(unittest.TestCase):
    def changed(self, function, works, *others):
        """What the function tells, with the works handed in looked at before and behind."""
        before = seen(works)
        told = function(works, *others)
        self.assertIs(type(told), Works)
        self.assertIsNot(told, works)
        self.assertEqual(seen(works), before)
        for row in (told.parts, told.shut):
            self.assertIs(type(row), tuple)
        return told

    def test_with_part(self):
        for many in range(4):
            works = Works([PUMP, BELT, ROCK][:many], 5, [2, 40])
            told = self.changed(with_part, works, LAMP)
            self.assertEqual(fields_of(told), {"parts": works.parts + (LAMP,), "call": 5, "shut": (2, 40)})
        self.assertEqual(len(with_part(with_part(with_part(with_part(NO_PARTS, PUMP), PUMP), BELT), ROCK).parts), 4)

    def test_with_part_refused(self):
        full = Works([PUMP] * 4, 5, [])
        for thing in (*NOT_ROWS, *ODD_ROWS, (5, 2, [1], 7), [PUMP], {"part": PUMP}, WORKS):
            for works in (NO_PARTS, WORKS, full):
                with self.subTest(thing=thing):
                    self.assertEqual(refusal_of(with_part, works, thing), (NoPart, 0))
        self.assertEqual(refusal_of(with_part, full, LAMP), (TooGreat, 4))
        self.assertEqual(len(full.parts), 4)

    def test_with_mark(self):
        works = Works([PUMP, BELT, ROCK, LAMP], 5, [2])
        for k, part in enumerate(works.parts):
            for mark in range(part.full + 1):
                told = self.changed(with_mark, works, k, mark)
                self.assertEqual((told.call, told.shut, len(told.parts)), (5, (2,), 4))
                for at, other in enumerate(told.parts):
                    answer = {**fields_of(works.parts[at]), **({"mark": mark} if at == k else {})}
                    self.assertEqual(fields_of(other), answer)

    def test_with_price(self):
        works = Works([PUMP, BELT, ROCK, LAMP], 5, [2])
        for k, price in product(range(4), (0, 1, 50, 99)):
            told = self.changed(with_price, works, k, price)
            self.assertEqual((told.call, told.shut, len(told.parts)), (5, (2,), 4))
            for at, other in enumerate(told.parts):
                answer = {**fields_of(works.parts[at]), **({"price": price} if at == k else {})}
                self.assertEqual(fields_of(other), answer)

    def test_no_such_part_mark_or_price(self):
        no_parts = (-1, 2, 3, 4, GREAT, -GREAT, *NOT_WHOLE)
        for k in range(2):
            right = {"works": WORKS, "k": k}
            most = WORKS.parts[k].full
            check_refusals(self, with_mark, {**right, "mark": most}, (
                ("k", no_parts, (NotTold,)),
                ("mark", (-1, most + 1, 10, GREAT, -GREAT, *NOT_WHOLE), (NoPart, 1)),
            ))
            check_refusals(self, with_price, {**right, "price": 4}, (
                ("k", no_parts, (NotTold,)),
                ("price", (-1, 100, GREAT, -GREAT, *NOT_WHOLE), (NoPart, 3)),
            ))
        for k in (0, 1, -1, None, False):
            self.assertEqual(refusal_of(with_mark, NO_PARTS, k, 0), (NotTold,))
            self.assertEqual(refusal_of(with_price, NO_PARTS, k, 0), (NotTold,))
            self.assertEqual(refusal_of(with_price, NO_PARTS, k, None), (NotTold,))

    def test_with_call(self):
        for works, call in product((NO_PARTS, WORKS), (0, 1, 5, 98, 99)):
            told = self.changed(with_call, works, call)
            self.assertEqual(fields_of(told), {**fields_of(works), "call": call})
        wrong = (-1, 100, GREAT, -GREAT, *NOT_WHOLE)
        check_refusals(self, with_call, {"works": WORKS, "call": 5}, (("call", wrong, (NoWorks, 1)),))

    def test_with_shut(self):
        for shut in ((), (2,), (0, 47), (5, 6, 7), tuple(range(1, 48)), tuple(range(47)), tuple(range(48))):
            works = Works([PUMP, BELT], 5, shut)
            for at in range(48):
                if at in shut:
                    self.assertEqual(refusal_of(with_shut, works, at), (NotTold,))
                else:
                    told = self.changed(with_shut, works, at)
                    answer = tuple(sorted({*shut, at}))
                    self.assertEqual(fields_of(told), {"parts": works.parts, "call": 5, "shut": answer})
            for thing in (-1, 48, GREAT, -GREAT, *NOT_WHOLE):
                with self.subTest(shut=shut, thing=thing):
                    self.assertEqual(refusal_of(with_shut, works, thing), (NoWorks, 2))

    def test_a_truth_is_no_round_that_is_shut(self):
        works = Works([], 0, [0, 1])
        self.assertEqual(refusal_of(with_shut, works, True), (NoWorks, 2))
        self.assertEqual(refusal_of(with_shut, works, False), (NoWorks, 2))


def least_or_more(works, stands, first, rounds):
    """The least price, or where none holds more than any."""
    if refusal_of(least, works, stands, first, rounds) == (NoneHolds,):
        return GREAT
    return least(works, stands, first, rounds)


class NeverLessTest(unittest.TestCase):
    def test_no_change_makes_the_least_price_less(self):
        source = random.Random(17)
        dearer = {}
        for works, stands, first, rounds in small_asks(400, (8, 8, 8, 6)):
            before = least_or_more(works, stands, first, rounds)
            others = [("call", with_call(works, source.randint(works.call, 99)), stands)]
            at = source.randint(first, first + rounds)
            if at < 48 and at not in works.shut:
                others.append(("shut", with_shut(works, at), stands))
            if len(works.parts) < 3:
                more = Part(3, 1, [1, 2], 4)
                others.append(("part", with_part(works, more), stands + (source.randint(1, 3),)))
            for k, part in enumerate(works.parts):
                others.append(("price", with_price(works, k, source.randint(part.price, 99)), stands))
                others.append(("mark", with_mark(works, k, source.randint(part.mark, stands[k])), stands))
            for word, other, begun in others:
                told = least_or_more(other, begun, first, rounds)
                self.assertGreaterEqual(told, before, word)
                dearer[word] = dearer.get(word, 0) + (told > before)
        self.assertEqual(sorted(dearer), ["call", "mark", "part", "price", "shut"])
        self.assertGreater(min(dearer.values()), 10)


if __name__ == "__main__":
    unittest.main()
