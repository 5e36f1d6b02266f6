import random
import unittest
from itertools import product

from helper import (
    GREAT, NOT_ROWS, NOT_WHOLE, ODD_ROWS, best_by_hand, check_refusals, holds_by_hand, is_told, listed, mixed,
    plans_by_hand, price_by_hand, refusal_of, small_asks,
)
from wearplan.errors import NoneHolds, NoPaper, NoRounds, NoStands
from wearplan.ones import late_changes
from wearplan.parts import Part
from wearplan.prices import bound, even_shares, is_shares, single_least
from wearplan.tables import least
from wearplan.works import Works

PUMP = Part(5, 2, [1], 7)
BELT = Part(6, 0, [0, 3], 2)
ROCK = Part(4, 4, [0], 9)
HARD = Part(5, 3, [0, 3], 1)
EVERY = tuple(range(48))


def single_by_hand(part, stand, first, prices, shut):
    """The least of all ways to change the part, gone through one by one, or None."""
    works = Works([part], 0, shut)
    plans = product(((), (0,)), repeat=len(prices))
    costs = [sum(price for price, choice in zip(prices, plan) if choice) for plan in plans
             if holds_by_hand(works, [stand], plan, first)]
    return min(costs, default=None)


def single_by_changes(part, stand, first, prices, shut):
    """The least from change to change, backwards, or None: for more rounds than all ways can be gone through."""
    rounds = len(prices)

    def cheapest(start, at, follows):
        """The least of those changes, or the end, to which the part comes from round at on without another."""
        losses = [part.wear[(first + k) % len(part.wear)] for k in range(rounds)]
        return min([cost for k, cost in follows if start - sum(losses[at:k]) >= part.mark], default=None)

    follows = [(rounds, 0)]
    for at in reversed(range(rounds)):
        if first + at not in shut:
            behind = cheapest(part.full, at, follows)
            if behind is not None:
                follows.append((at, prices[at] + behind))
    return cheapest(stand, 0, follows)


def random_part(source):
    full = source.randint(1, 9)
    wear = [source.randint(0, source.choice((1, 2, 3))) for k in range(source.randint(1, 6))]
    return Part(full, source.randint(0, min(full, 2)), wear, source.randint(0, 99))


class SingleLeastTest(unittest.TestCase):
    def test_by_hand(self):
        self.assertEqual(single_least(PUMP, 5, 0, [9, 9, 9], []), 0)
        self.assertEqual(single_least(PUMP, 5, 0, [9, 9, 9, 9], []), 9)
        self.assertEqual(single_least(PUMP, 5, 0, [9, 8, 3, 4], []), 3)
        self.assertEqual(single_least(PUMP, 5, 0, [9, 8, 3, 4], [2]), 4)
        self.assertEqual(single_least(PUMP, 5, 0, [9, 8, 3, 4], [2, 3]), 8)
        self.assertEqual(single_least(PUMP, 2, 0, [5, 1, 1, 1], []), 6)
        self.assertEqual(single_least(PUMP, 2, 7, (9999,) * 4, [0]), 2 * 9999)

    def test_prices_of_nought(self):
        for rounds in (0, 1, 5, 24):
            self.assertEqual(single_least(PUMP, 2, 0, [0] * rounds, []), 0)
        self.assertEqual(single_least(PUMP, 2, 0, [0, 0, 5, 0, 0], []), 0)
        self.assertEqual(single_least(PUMP, 2, 0, [0, 5, 5, 5, 0], []), 5)
        self.assertEqual(single_least(PUMP, 2, 0, [0, 5, 5, 5, 0, 5, 5], []), 5)

    def test_no_prices(self):
        for part, first, shut in product((PUMP, HARD, ROCK), (0, 47), ([], EVERY)):
            for stand in range(part.mark, part.full + 1):
                for prices in ([], ()):
                    self.assertEqual(single_least(part, stand, first, prices, shut), 0)

    def test_shut_rounds(self):
        self.assertEqual(single_least(PUMP, 5, 0, [1] * 24, [k for k in range(48) if k % 2]), 11)
        self.assertEqual(single_least(PUMP, 5, 0, [1] * 24, [k for k in range(48) if k % 2 == 0]), 10)
        self.assertEqual(single_least(PUMP, 5, 0, [1] * 3, EVERY), 0)
        self.assertEqual(refusal_of(single_least, PUMP, 5, 0, [1] * 4, EVERY), (NoneHolds,))
        self.assertEqual(refusal_of(single_least, PUMP, 2, 0, [1], [0]), (NoneHolds,))
        # No round behind the 48th can be shut.
        self.assertEqual(single_least(PUMP, 3, 47, [5] * 2, EVERY), 5)
        self.assertEqual(refusal_of(single_least, PUMP, 2, 47, [5] * 2, EVERY), (NoneHolds,))

    def test_the_first_round_counts(self):
        part = Part(4, 0, [0, 0, 4], 1)
        self.assertEqual([single_least(part, 3, first, [7, 5], []) for first in (0, 1, 2, 47)], [0, 5, 7, 7])

    def test_a_part_that_never_falls(self):
        for first, shut in product((0, 47), ([], EVERY, [3])):
            self.assertEqual(single_least(ROCK, 4, first, [9999] * 24, shut), 0)

    def test_a_part_that_no_way_keeps(self):
        self.assertEqual(single_least(HARD, 5, 0, [1], []), 0)
        for first, rounds in ((0, 2), (1, 1), (47, 1), (0, 24)):
            self.assertEqual(refusal_of(single_least, HARD, 5, first, [1] * rounds, []), (NoneHolds,))
            self.assertEqual(refusal_of(single_least, HARD, 5, first, [0] * rounds, []), (NoneHolds,))

    def test_against_all_ways(self):
        source = random.Random(14)
        kept, lost = 0, 0
        for again in range(600):
            part = random_part(source)
            stand = source.randint(part.mark, part.full)
            first = source.choice((0, 1, 5, 41, 46, 47))
            prices = [source.choice((0, 1, 2, 7, 9999)) for k in range(source.randint(0, 9))]
            shut = sorted(source.sample(EVERY, source.choice((0, 0, 10, 25, 48))))
            answer = single_by_hand(part, stand, first, prices, shut)
            self.assertEqual(single_by_changes(part, stand, first, prices, shut), answer)
            if answer is None:
                lost += 1
                self.assertEqual(refusal_of(single_least, part, stand, first, prices, shut), (NoneHolds,))
                continue
            kept += 1
            for rows in ((prices, shut), (tuple(prices), tuple(shut))):
                told = single_least(part, stand, first, *rows)
                self.assertEqual(told, answer)
                self.assertIs(type(told), int)
        self.assertGreater(min(kept, lost), 100)

    def test_many_rounds_against_another_way(self):
        source = random.Random(24)
        paid = 0
        for again in range(400):
            part = random_part(source)
            stand = source.randint(part.mark, part.full)
            first = source.choice((0, 7, 24, 46, 47))
            prices = [source.randint(0, 9999) for k in range(source.choice((16, 23, 24)))]
            shut = sorted(source.sample(EVERY, source.choice((0, 0, 5, 20))))
            answer = single_by_changes(part, stand, first, prices, shut)
            if answer is None:
                self.assertEqual(refusal_of(single_least, part, stand, first, prices, shut), (NoneHolds,))
            else:
                paid += answer > 0
                self.assertEqual(single_least(part, stand, first, prices, shut), answer)
        self.assertGreater(paid, 100)

    def test_by_one_price_the_fewest_changes(self):
        source = random.Random(10)
        for again in range(300):
            part = random_part(source)
            stand = source.randint(part.mark, part.full)
            first, rounds = source.choice((0, 20, 47)), source.randint(0, 24)
            if refusal_of(late_changes, part, stand, first, rounds) is None:
                changes = late_changes(part, stand, first, rounds)
                self.assertEqual(single_least(part, stand, first, [3] * rounds, []), 3 * len(changes))

    def test_refusals(self):
        wrong_prices = (
            *NOT_ROWS, *[row for row in ODD_ROWS if row != []], [1] * 25, (0,) * 25, [-1], [10000], [1, GREAT],
            [1, -GREAT, 1], [1, True], (False, 1), [1, None], ["1"], [[1]], [1, [1]], [{}], {0: 1}, [1] * 24 + [None],
        )
        wrong_shut = (
            *NOT_ROWS, *[row for row in ODD_ROWS if row != []], [-1], [48], [0, 48], [3, 3], [4, 3], [0, 2, 1], [True],
            [0, True], [False], [None], ["1"], [[1]], [GREAT], list(range(49)), {3: 3},
        )
        right = {"part": PUMP, "stand": 3, "first": 0, "prices": [1, 1, 1], "shut": [40]}
        check_refusals(self, single_least, right, (
            ("stand", (1, 6, -1, GREAT, -GREAT, *NOT_WHOLE), (NoStands,)),
            ("first", (-1, 48, GREAT, -GREAT, *NOT_WHOLE), (NoRounds,)),
            ("prices", wrong_prices, (NoPaper,)),
            ("shut", wrong_shut, (NoPaper,)),
        ))

    def test_ahead_of_none_holds(self):
        right = {"part": HARD, "stand": 3, "first": 1, "prices": [1, 1], "shut": []}
        self.assertEqual(refusal_of(single_least, **right), (NoneHolds,))
        for name, thing, refusal in (
            ("stand", 2, NoStands), ("first", 48, NoRounds), ("prices", [1, -1], NoPaper), ("shut", [48], NoPaper),
        ):
            self.assertEqual(refusal_of(single_least, **{**right, name: thing}), (refusal,))

    def test_at_the_bounds(self):
        for prices, shut in product(([], [0] * 24, [9999] * 24, (9999,)), ([], [0], [47], [0, 47], EVERY)):
            for first in (0, 47):
                self.assertEqual(single_least(ROCK, 4, first, prices, shut), 0)


class SharesTest(unittest.TestCase):
    works = Works([PUMP, BELT, ROCK], 10, [2])

    def test_even_and_uneven(self):
        for row in ((4, 3, 3), (10, 0, 0), (0, 0, 10), (0, 0, 0), (1, 2, 3), (5, 5, 0), (0, 9, 0)):
            for rounds in range(25):
                thing = (row,) * rounds
                for rows in (thing, listed(thing), mixed(thing)):
                    self.assertIs(is_shares(self.works, rows), True)
        self.assertIs(is_shares(self.works, [(4, 3, 3), [0, 0, 0], (10, 0, 0)]), True)

    def test_more_than_the_call(self):
        for row in ((4, 4, 3), (11, 0, 0), (0, 0, 11), (10, 1, 0), (10, 10, 10), (GREAT, 0, 0), (GREAT, -GREAT, 0)):
            for thing in ([row], [list(row)], [(0, 0, 0), row], [row, (0, 0, 0)], [(1, 1, 1)] * 23 + [row]):
                self.assertIs(is_shares(self.works, thing), False)

    def test_below_nought(self):
        for row in ((-1, 0, 0), (0, -1, 0), (5, 5, -1), (11, -1, 0), (-GREAT, 0, 0)):
            self.assertIs(is_shares(self.works, [row]), False)

    def test_rows_that_are_none(self):
        rows = (
            (), (1,), (1, 1), (1, 1, 1, 1), (0, 0, 0, 0), (True, 1, 1), (1, 1, False), ("1", 1, 1), (None, 1, 1),
            ([1], 1, 1), ((1, 1, 1),), {0: 1, 1: 1, 2: 1}, "111", None, True, 0, 3, "", {}, GREAT,
        )
        for row in rows:
            for thing in ([row], (row,), [(1, 1, 1), row], [row, (1, 1, 1)]):
                with self.subTest(thing=thing):
                    self.assertIs(is_shares(self.works, thing), False)

    def test_things_that_are_none(self):
        for thing in (*NOT_ROWS, *ODD_ROWS):
            self.assertIs(is_shares(self.works, thing), False)
        self.assertIs(is_shares(self.works, []), True)
        self.assertIs(is_shares(self.works, ()), True)
        self.assertIs(is_shares(self.works, [[[1, 1, 1]]]), False)

    def test_how_many_rounds(self):
        for rounds in (0, 1, 23, 24, 25, 26, 100):
            self.assertIs(is_shares(self.works, [(1, 1, 1)] * rounds), rounds <= 24)
            self.assertIs(is_shares(Works([], 10, []), [()] * rounds), rounds <= 24)

    def test_without_parts(self):
        works = Works([], 0, [])
        for thing in ([], [[]], [()], [[], ()], ((),) * 24):
            self.assertIs(is_shares(works, thing), True)
        for thing in ([[0]], [None], [()] * 25, [[], [0]], [[[]]], [False], ["", ()], [{}]):
            self.assertIs(is_shares(works, thing), False)

    def test_a_call_of_nought(self):
        works = Works([PUMP, BELT], 0, [])
        self.assertIs(is_shares(works, [(0, 0)]), True)
        for row in ((1, 0), (0, 1), (1, -1), (False, 0)):
            self.assertIs(is_shares(works, [row]), False)


class EvenSharesTest(unittest.TestCase):
    def test_by_hand(self):
        for many, call, row in (
            (0, 7, ()), (1, 7, (7,)), (2, 7, (4, 3)), (3, 7, (3, 2, 2)), (4, 7, (2, 2, 2, 1)), (3, 8, (3, 3, 2)),
            (4, 0, (0, 0, 0, 0)), (4, 1, (1, 0, 0, 0)), (4, 99, (25, 25, 25, 24)), (2, 99, (50, 49)), (3, 99, (33,) * 3),
        ):
            works = Works([PUMP] * many, call, [0])
            for rounds in range(25):
                told = even_shares(works, rounds)
                self.assertEqual(told, (row,) * rounds)
                self.assertTrue(is_told(told))

    def test_all_calls(self):
        for many, call in product(range(5), range(100)):
            works = Works([BELT] * many, call, [])
            told = even_shares(works, 2)
            self.assertIs(is_shares(works, told), True)
            for row in told:
                self.assertEqual(len(row), many)
                self.assertEqual(sum(row), call if many else 0)
                self.assertEqual(list(row), sorted(row, reverse=True))
                self.assertLessEqual(max(row, default=0) - min(row, default=0), 1)

    def test_refusals(self):
        for many in range(5):
            right = {"works": Works([PUMP] * many, 5, []), "rounds": 3}
            check_refusals(self, even_shares, right, (
                ("rounds", (-1, 25, GREAT, -GREAT, *NOT_WHOLE), (NoRounds,)),
            ))


def random_shares(source, works, rounds):
    rows = []
    for k in range(rounds):
        left, row = works.call, []
        for part in works.parts:
            row.append(source.randint(0, left))
            left -= row[-1]
        rows.append(source.choice((tuple, list))(source.sample(row, len(row))))
    return rows


class BoundTest(unittest.TestCase):
    def test_by_hand(self):
        works = Works([PUMP, BELT], 5, [])
        self.assertEqual(bound(works, [5, 6], 0, [(3, 2)] * 3), 0)
        self.assertEqual(bound(works, [5, 6], 0, [(3, 2)] * 6), 10 + 4)
        self.assertEqual(bound(works, [5, 6], 0, [(5, 0)] * 6), 12 + 2)
        self.assertEqual(bound(works, [5, 6], 0, [(3, 2), [1, 4], (0, 5), (2, 0), (2, 0), (4, 0)]), 9 + 2)
        # Both can be kept alone though one call does not pay for both.
        self.assertEqual(bound(works, [2, 6], 0, [(5, 0), (0, 5), (0, 5)]), 12)

    def test_added_up_by_hand(self):
        source = random.Random(15)
        none = 0
        for works, stands, first, rounds in small_asks(400, (24, 24, 24, 24)):
            shares = source.choice((random_shares(source, works, rounds), even_shares(works, rounds)))
            answer = 0
            for k, part in enumerate(works.parts):
                prices = [part.price + row[k] for row in shares]
                alone = single_by_changes(part, stands[k], first, prices, works.shut)
                answer = None if alone is None or answer is None else answer + alone
            if answer is None:
                none += 1
                self.assertEqual(refusal_of(bound, works, stands, first, shares), (NoneHolds,))
            else:
                for rows in (shares, listed(shares), mixed(shares)):
                    told = bound(works, source.choice((list, tuple))(stands), first, rows)
                    self.assertEqual(told, answer)
                    self.assertIs(type(told), int)
        self.assertGreater(none, 50)

    def test_no_plan_that_holds_is_cheaper(self):
        source = random.Random(16)
        for works, stands, first, rounds in small_asks(200, (6, 6, 4, 2)):
            best = best_by_hand(works, stands, first, rounds)
            for shares in (even_shares(works, rounds), random_shares(source, works, rounds)):
                if best is None:
                    continue
                told = bound(works, stands, first, shares)
                for plan in plans_by_hand(len(works.parts), rounds):
                    if holds_by_hand(works, stands, plan, first):
                        self.assertLessEqual(told, price_by_hand(works, plan))

    def test_against_least(self):
        source = random.Random(17)
        met, below = 0, 0
        for works, stands, first, rounds in small_asks(300, (8, 8, 8, 8)):
            shares = random_shares(source, works, rounds)
            if refusal_of(least, works, stands, first, rounds) == (NoneHolds,):
                # Parts do not wait for one another: where all can be kept alone they can be together.
                self.assertEqual(refusal_of(bound, works, stands, first, shares), (NoneHolds,))
                continue
            price = least(works, stands, first, rounds)
            for rows in (shares, even_shares(works, rounds)):
                told = bound(works, stands, first, rows)
                self.assertLessEqual(told, price)
                met += told == price > 0
                below += told < price
        self.assertGreater(min(met, below), 30)

    def test_one_part_with_the_whole_call(self):
        for works, stands, first, rounds in small_asks(400, (8, 8, 8, 8)):
            if len(works.parts) == 1 and refusal_of(least, works, stands, first, rounds) is None:
                told = bound(works, stands, first, even_shares(works, rounds))
                self.assertEqual(told, least(works, stands, first, rounds))

    def test_without_parts(self):
        for rounds, first in product((0, 1, 24), (0, 47)):
            self.assertEqual(bound(Works([], 9, EVERY), [], first, [()] * rounds), 0)

    def test_none_holds(self):
        for parts, stands in (([HARD], [5]), ([PUMP, HARD], [5, 5]), ([HARD, PUMP], [5, 5]), ([HARD, HARD], [3, 4])):
            works = Works(parts, 5, [])
            self.assertEqual(bound(works, stands, 0, even_shares(works, 1)), 0)
            self.assertEqual(refusal_of(bound, works, stands, 0, even_shares(works, 2)), (NoneHolds,))
        shut = Works([ROCK, PUMP], 5, [7])
        self.assertEqual(refusal_of(bound, shut, [4, 2], 7, [(0, 0)]), (NoneHolds,))
        self.assertEqual(bound(shut, [4, 2], 8, [(0, 0)]), 7)

    def test_refusals(self):
        wrong_stands = (
            *NOT_ROWS, *ODD_ROWS, [], [5], [5, 6, 6], [1, 6], [6, 6], [5, 7], [5, -1], [5, True], [False, 6], [5, None],
            [5, "6"], [[5, 6]], [5, GREAT],
        )
        wrong_shares = (
            *NOT_ROWS, *[row for row in ODD_ROWS if row != []], [(3, 3)], [(6, 0)], [(-1, 0)], [(0, True)], [(0, "1")],
            [(1, None)], [(1,)], [(1, 1, 1)], [()], [5, 0], [(0, 0)] * 25, [(0, 0)] * 24 + [None], {0: (0, 0)},
        )
        right = {"works": Works([PUMP, BELT], 5, []), "stands": [5, 6], "first": 0, "shares": [(3, 2), [5, 0]]}
        check_refusals(self, bound, right, (
            ("stands", wrong_stands, (NoStands,)),
            ("first", (-1, 48, GREAT, -GREAT, *NOT_WHOLE), (NoRounds,)),
            ("shares", wrong_shares, (NoPaper,)),
        ))

    def test_ahead_of_none_holds(self):
        right = {"works": Works([PUMP, HARD], 5, []), "stands": [5, 5], "first": 0, "shares": [(3, 2), [5, 0]]}
        self.assertEqual(refusal_of(bound, **right), (NoneHolds,))
        for name, thing, refusal in (
            ("stands", [5, 2], NoStands), ("first", 48, NoRounds), ("shares", [(3, 3), (3, 2)], NoPaper),
            ("shares", [(3, 2), (6, 0)], NoPaper),
        ):
            self.assertEqual(refusal_of(bound, **{**right, name: thing}), (refusal,))


if __name__ == "__main__":
    unittest.main()
