import random
import unittest

from helper import (
    GREAT, NOT_ROWS, NOT_WHOLE, ODD_ROWS, best_by_hand, check_refusals, choices_by_hand, fields_of, is_told, price_by_hand,
    refusal_of, seen, walk_by_hand,
)
from wearplan.desk import Desk
from wearplan.errors import (
    Falls, NoneHolds, NoPart, NoPlan, NoRounds, NoStands, NotTold, NoWorks, Shut, TooGreat,
)
from wearplan.parts import Part
from wearplan.tables import best_plan
from wearplan.walks import price_of, walk
from wearplan.works import Works

PUMP = Part(5, 2, [1], 7)
BELT = Part(6, 0, [0, 3], 2)
ROCK = Part(4, 4, [0], 9)
GREAT_PART = Part(7, 0, [1], 1)
NO_PARTS = (*NOT_ROWS, *ODD_ROWS, (5, 2, [1], 7), [PUMP], Works([], 0, []))


def desk_of(*parts, call=5):
    desk = Desk(call)
    for part in parts:
        desk.add(part)
    return desk


def state_of(desk):
    """All that a desk tells."""
    return seen((desk.told(), desk.works()))


class DeskTest(unittest.TestCase):
    def refused(self, deed, *arguments):
        """What the deed is refused with; told and works are as before behind it."""
        desk = deed.__self__
        before = state_of(desk)
        refusal = refusal_of(deed, *arguments)
        self.assertEqual(state_of(desk), before)
        return refusal

    def test_at_first(self):
        for call in (0, 1, 99):
            desk = Desk(call)
            self.assertEqual(desk.told(), (0, (), 0))
            self.assertIs(type(desk.works()), Works)
            self.assertEqual(fields_of(desk.works()), {"parts": (), "call": call, "shut": ()})
        self.assertEqual(fields_of(Desk(call=7).works())["call"], 7)
        check_refusals(self, Desk, {"call": 5}, (("call", (-1, 100, GREAT, -GREAT, *NOT_WHOLE), (NoWorks, 1)),))

    def test_add(self):
        desk = Desk(5)
        for k, part in enumerate((PUMP, BELT, ROCK, PUMP)):
            self.assertEqual(desk.add(part=part), k)
            self.assertEqual(desk.told(), (0, (5, 6, 4, 5)[:k + 1], 0))
            self.assertEqual(desk.works().parts, (PUMP, BELT, ROCK, PUMP)[:k + 1])
            for thing in NO_PARTS:
                self.assertEqual(self.refused(desk.add, thing), (NoPart, 0))
        self.assertEqual(self.refused(desk.add, PUMP), (TooGreat, 4))
        self.assertEqual(self.refused(desk.add, None), (NoPart, 0))

    def test_add_behind_some_rounds(self):
        desk = desk_of(PUMP)
        desk.go([])
        desk.go([])
        self.assertEqual(desk.add(BELT), 1)
        self.assertEqual(desk.told(), (2, (3, 6), 0))
        self.assertEqual(desk.go([]), (2, 6))

    def test_set_mark(self):
        desk = desk_of(PUMP, BELT)
        for mark, answer in ((2, False), (3, True), (3, False), (0, True), (0, False), (5, True), (5, False), (1, True)):
            self.assertIs(desk.set_mark(k=0, mark=mark), answer)
            self.assertEqual([part.mark for part in desk.works().parts], [mark, 0])
        self.assertEqual(fields_of(desk.works().parts[0]), {"full": 5, "mark": 1, "wear": (1,), "price": 7})
        self.assertEqual(desk.works().parts[1], BELT)
        self.assertEqual(desk.told(), (0, (5, 6), 0))
        self.assertEqual(PUMP.mark, 2)

    def test_set_mark_refused(self):
        desk = desk_of(PUMP, BELT)
        for k in (-1, 2, 3, GREAT, *NOT_WHOLE):
            for mark in (2, 6, None, True):
                self.assertEqual(self.refused(desk.set_mark, k, mark), (NotTold,))
        for mark in (-1, 6, GREAT, -GREAT, *NOT_WHOLE):
            self.assertEqual(self.refused(desk.set_mark, 0, mark), (NoPart, 1))
        desk.go([])
        desk.go([])
        self.assertEqual(desk.told(), (2, (3, 3), 0))
        for mark, refusal in ((4, (NoStands,)), (5, (NoStands,)), (6, (NoPart, 1)), (True, (NoPart, 1))):
            self.assertEqual(self.refused(desk.set_mark, 0, mark), refusal)
        for mark, refusal in ((4, (NoStands,)), (6, (NoStands,)), (7, (NoPart, 1))):
            self.assertEqual(self.refused(desk.set_mark, 1, mark), refusal)
        self.assertIs(desk.set_mark(0, 3), True)
        self.assertEqual(self.refused(desk.go, []), (Falls, 2, 0))
        self.assertIs(desk.set_mark(0, 1), True)
        self.assertEqual(desk.go([]), (2, 3))
        self.assertEqual(refusal_of(Desk(5).set_mark, 0, 0), (NotTold,))

    def test_shut_round(self):
        desk = desk_of(PUMP)
        for at, shut in ((4, (4,)), (0, (0, 4)), (47, (0, 4, 47)), (2, (0, 2, 4, 47))):
            self.assertIs(desk.shut_round(round_number=at), True)
            self.assertEqual(desk.works().shut, shut)
            self.assertEqual(self.refused(desk.shut_round, at), (NotTold,))
        for thing in (-1, 48, GREAT, -GREAT, *NOT_WHOLE):
            self.assertEqual(self.refused(desk.shut_round, thing), (NoWorks, 2))
        self.assertEqual(self.refused(desk.go, [0]), (Shut, 0))
        self.assertEqual(desk.go([]), (4,))

    def test_a_round_shut_that_is_over(self):
        desk = desk_of(PUMP)
        desk.go([0])
        desk.go([])
        before = desk.told()
        self.assertIs(desk.shut_round(0), True)
        self.assertIs(desk.shut_round(1), True)
        self.assertEqual(desk.told(), before)
        self.assertEqual(desk.works().shut, (0, 1))
        self.assertEqual(desk.go([0]), (4,))

    def test_go(self):
        desk = desk_of(PUMP, BELT)
        self.assertEqual(desk.go(choice=[]), (4, 6))
        self.assertEqual(desk.told(), (1, (4, 6), 0))
        choice = [0, 1]
        self.assertEqual(desk.go(choice), (4, 3))
        self.assertEqual(choice, [0, 1])
        choice.clear()
        self.assertEqual(desk.told(), (2, (4, 3), 14))
        self.assertEqual(desk.go((1,)), (3, 6))
        self.assertEqual(desk.told(), (3, (3, 6), 21))
        self.assertTrue(is_told(desk.told()))

    def test_go_refused(self):
        desk = desk_of(PUMP, BELT)
        desk.shut_round(3)
        for thing in (*NOT_ROWS, *[row for row in ODD_ROWS if row != []], [2], [-1], [0, 0], [1, 0], [True], [0, True], [None],
                      [[0]], [GREAT]):
            self.assertEqual(self.refused(desk.go, thing), (NoPlan, 0))
        for k in range(3):
            desk.go([])
        self.assertEqual(desk.told(), (3, (2, 3), 0))
        self.assertEqual(self.refused(desk.go, [0]), (Shut, 3))
        self.assertEqual(self.refused(desk.go, [1]), (Shut, 3))
        self.assertEqual(self.refused(desk.go, [2]), (NoPlan, 0))
        self.assertEqual(self.refused(desk.go, []), (Falls, 3, 0))
        # With a lesser mark the round can be done.
        desk.set_mark(0, 1)
        self.assertEqual(desk.go([]), (1, 0))
        desk.go([0])
        self.assertEqual(self.refused(desk.go, [0]), (Falls, 5, 1))

    def test_the_least_part_that_falls(self):
        desk = desk_of(ROCK, Part(1, 0, [1], 0), Part(1, 0, [1], 0))
        desk.go([])
        self.assertEqual(self.refused(desk.go, []), (Falls, 1, 1))
        self.assertEqual(self.refused(desk.go, [1]), (Falls, 1, 2))
        self.assertEqual(desk.go([1, 2]), (4, 0, 0))

    def test_up_to_the_48th_round_and_beyond(self):
        desk = desk_of(ROCK, Part(1, 0, [1], 1), call=2)
        for at in range(48):
            self.assertEqual(desk.told(), (at, (4, 1 if at == 0 else 0), 3 * at))
            self.assertEqual(desk.go([1]), (4, 0))
        self.assertEqual(desk.told(), (48, (4, 0), 144))
        for thing in ([], [1], [0, 1], None, True, [7], "x"):
            self.assertEqual(self.refused(desk.go, thing), (NoRounds,))
        for rounds in (0, 1, 8, 9, 25, None):
            self.assertEqual(self.refused(desk.plan, rounds), (NoRounds,))
        # The desk is kept all the same.
        self.assertEqual(desk.add(PUMP), 2)
        self.assertIs(desk.set_mark(2, 1), True)
        self.assertIs(desk.shut_round(47), True)
        self.assertEqual(self.refused(desk.go, []), (NoRounds,))
        self.assertEqual(desk.told(), (48, (4, 0, 5), 144))

    def test_the_last_round_may_be_shut(self):
        desk = desk_of(ROCK)
        desk.shut_round(47)
        for at in range(47):
            desk.go([])
        self.assertEqual(self.refused(desk.go, [0]), (Shut, 47))
        self.assertEqual(desk.plan(8), ((),) * 8)
        self.assertEqual(desk.go([]), (4,))
        self.assertEqual(self.refused(desk.go, [0]), (NoRounds,))

    def test_works_told_earlier_stay(self):
        desk = desk_of(PUMP)
        told = [(desk.works(), desk.told())]
        before = [seen(told[0])]
        for deed, arguments in ((desk.add, (BELT,)), (desk.set_mark, (0, 1)), (desk.shut_round, (3,)), (desk.go, ([0],)),
                                (desk.set_mark, (1, 3)), (desk.shut_round, (1,)), (desk.go, ([],))):
            deed(*arguments)
            told.append((desk.works(), desk.told()))
            before.append(seen(told[-1]))
            self.assertEqual([seen(entry) for entry in told], before)
        self.assertEqual(seen((PUMP, BELT)), seen((Part(5, 2, [1], 7), Part(6, 0, [0, 3], 2))))

    def test_the_same_each_time(self):
        desk = desk_of(PUMP, BELT)
        desk.go([0])
        for again in range(3):
            self.assertEqual(desk.told(), (1, (4, 6), 12))
            self.assertEqual(seen(desk.works()), seen(Works([PUMP, BELT], 5, [])))
            self.assertEqual(desk.plan(4), best_plan(Works([PUMP, BELT], 5, []), [4, 6], 1, 4))


class DeskPlanTest(unittest.TestCase):
    def test_refusals(self):
        desk = desk_of(PUMP, BELT)
        wrong = (-1, 25, GREAT, -GREAT, *NOT_WHOLE)
        self.assertEqual({refusal_of(desk.plan, rounds) for rounds in wrong}, {(NoRounds,)})
        self.assertEqual({refusal_of(desk.plan, rounds) for rounds in (9, 10, 24)}, {(TooGreat, 8)})
        for parts, refusal in (((PUMP,) * 4, (TooGreat, 3)), ((PUMP, GREAT_PART, ROCK, ROCK), (TooGreat, 3)),
                               ((PUMP, GREAT_PART), (TooGreat, 6)), ((GREAT_PART,), (TooGreat, 6))):
            for rounds in (0, 8, 9, 24):
                self.assertEqual(refusal_of(desk_of(*parts).plan, rounds), refusal)
            for rounds in wrong:
                self.assertEqual(refusal_of(desk_of(*parts).plan, rounds), (NoRounds,))
        hard = desk_of(Part(5, 3, [0, 3], 1))
        self.assertEqual(hard.plan(rounds=1), ((),))
        self.assertEqual(refusal_of(hard.plan, 2), (NoneHolds,))
        self.assertEqual(refusal_of(hard.plan, 9), (TooGreat, 8))

    def test_without_parts(self):
        desk = Desk(3)
        for rounds in range(9):
            self.assertEqual(desk.plan(rounds), ((),) * rounds)
        self.assertEqual(desk.go([]), ())

    def test_done_choice_by_choice(self):
        desk = desk_of(PUMP, BELT, Part(3, 1, [1, 0, 0], 1))
        desk.shut_round(6)
        desk.shut_round(40)
        paid = 0
        while desk.told()[0] < 40:
            at, stands, before = desk.told()
            works = desk.works()
            plan = desk.plan(8)
            self.assertEqual(plan, best_plan(works, stands, at, 8))
            self.assertEqual(desk.told(), (at, stands, before))
            path = walk(works, stands, plan, at)
            for k, choice in enumerate(plan):
                self.assertEqual(desk.go(choice), path[k + 1])
            paid += price_of(works, plan)
            self.assertEqual(desk.told(), (at + 8, path[-1], paid))
        self.assertGreater(paid, 50)


class OtherDesk:
    """Another way to keep a desk: all deeds are kept, and what is asked is reckoned from its parts and choices."""

    def __init__(self, call):
        self.call, self.parts, self.marks, self.shut = call, [], [], set()
        self.stands, self.at, self.paid = [], 0, 0

    def works(self):
        parts = [Part(part.full, mark, part.wear, part.price) for part, mark in zip(self.parts, self.marks)]
        return Works(parts, self.call, sorted(self.shut))

    def told(self):
        return self.at, tuple(self.stands), self.paid

    def do(self, word, *arguments):
        """What the deed tells, or the refusal in a list."""
        return getattr(self, word)(*arguments)

    def add(self, part):
        if not isinstance(part, Part):
            return [NoPart, 0]
        if len(self.parts) == 4:
            return [TooGreat, 4]
        self.parts.append(part)
        self.marks.append(part.mark)
        self.stands.append(part.full)
        return len(self.parts) - 1

    def set_mark(self, k, mark):
        if type(k) is not int or k not in range(len(self.parts)):
            return [NotTold]
        if type(mark) is not int or not 0 <= mark <= self.parts[k].full:
            return [NoPart, 1]
        if mark > self.stands[k]:
            return [NoStands]
        before, self.marks[k] = self.marks[k], mark
        return before != mark

    def shut_round(self, round_number):
        if type(round_number) is not int or round_number not in range(48):
            return [NoWorks, 2]
        if round_number in self.shut:
            return [NotTold]
        self.shut.add(round_number)
        return True

    def go(self, choice):
        if self.at == 48:
            return [NoRounds]
        if not isinstance(choice, (list, tuple)) or tuple(choice) not in choices_by_hand(len(self.parts)) or any(
                type(k) is not int for k in choice):
            return [NoPlan, 0]
        answer = walk_by_hand(self.works(), self.stands, (choice,), self.at)
        if answer[0] != "holds":
            return [{"shut": Shut, "falls": Falls}[answer[0]], *answer[1:]]
        self.at += 1
        self.stands = list(answer[1][1])
        self.paid += price_by_hand(self.works(), (choice,))
        return tuple(self.stands)

    def plan(self, rounds):
        if type(rounds) is not int or not 0 <= rounds <= 24 or self.at == 48:
            return [NoRounds]
        if len(self.parts) > 3:
            return [TooGreat, 3]
        if max([part.full for part in self.parts], default=0) > 6:
            return [TooGreat, 6]
        if rounds > 8:
            return [TooGreat, 8]
        best = best_by_hand(self.works(), self.stands, self.at, rounds)
        return best[1] if best else [NoneHolds]


def random_deed(source, other, rounds_shut):
    """A deed and its arguments, not seldom wrong ones; a works with many rounds shut does not come far."""
    many = len(other.parts)
    odd = source.choice((None, True, False, -1, 48, "x", [], {}, GREAT))
    words = ["add", "set_mark", "go", "go", "go", "go", "go", "plan"] + ["shut_round"] * (len(other.shut) < rounds_shut)
    word = source.choice(words)
    if word == "add":
        full = source.choice((2, 3, 4, 5, 6, 6, 6, 7, 9))
        part = Part(full, source.randint(0, 1), [source.choice((0, 1, 1, 2)) for k in range(source.randint(1, 6))], source.randint(0, 9))
        return word, (part if source.random() < 0.3 else odd,)
    if word == "set_mark":
        return word, (source.choice((0, 1, 2, 3, odd)), source.choice((0, 0, 1, 2, 9, odd)))
    if word == "shut_round":
        return word, (source.choice((source.randrange(48), other.at, other.at + 1, odd)),)
    if word == "plan":
        return word, (source.choice((0, 1, 2, 9, 25, odd)),)
    choice = source.choice([*choices_by_hand(many), tuple(range(many)), [many], [1, 0], [True], odd])
    return word, (list(choice) if isinstance(choice, tuple) and source.random() < 0.5 else choice,)


class AgainstAnotherDeskTest(unittest.TestCase):
    def test_many_deeds_in_a_row_and_two_desks_in_turn(self):
        source = random.Random(27)
        told = {}
        latest = 0
        for again in range(60):
            pairs = [(Desk(call), OtherDesk(call)) for call in (source.randint(0, 9), source.randint(0, 99))]
            for k in range(300):
                desk, other = source.choice(pairs)
                word, arguments = random_deed(source, other, (2, 8, 48)[again % 3])
                answer = other.do(word, *arguments)
                if isinstance(answer, list):
                    self.assertEqual(refusal_of(getattr(desk, word), *arguments), tuple(answer), (word, arguments))
                else:
                    given = getattr(desk, word)(*arguments)
                    self.assertEqual(seen(given), seen(answer), (word, arguments))
                    self.assertTrue(is_told(given))
                key = word, answer[0] if isinstance(answer, list) else None
                told[key] = told.get(key, 0) + 1
                for one, its_other in pairs:
                    self.assertEqual(one.told(), its_other.told())
                    self.assertEqual(seen(one.works()), seen(its_other.works()))
            latest = max(latest, *[desk.told()[0] for desk, other in pairs])
        self.assertEqual(latest, 48)
        for key in (("add", None), ("add", NoPart), ("add", TooGreat), ("set_mark", None), ("set_mark", NotTold), ("set_mark", NoPart),
                    ("set_mark", NoStands), ("shut_round", None), ("shut_round", NoWorks), ("shut_round", NotTold), ("go", None),
                    ("go", NoRounds), ("go", NoPlan), ("go", Shut), ("go", Falls), ("plan", None), ("plan", NoRounds),
                    ("plan", TooGreat), ("plan", NoneHolds)):
            self.assertGreater(told.get(key, 0), 4, key)


if __name__ == "__main__":
    unittest.main()
