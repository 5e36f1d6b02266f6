import random
import time
import unittest
from itertools import product
from math import prod

from helper import GREAT, NOT_ROWS, NOT_WHOLE, ODD_ROWS, by_names, check_refusals, fields_of, is_told, refusal_of
from wearplan.errors import NoRounds, NoStands, NoWorks
from wearplan.looking import LookPrices, best_move, least_risk, risk_of
from wearplan.shares import Shared

RIGHT = {"look": 1, "change": 20, "fall": 50}
MILLION = 10 ** 6


def costs_by_hand(part, weights, prices, rounds):
    """What the rounds cost at least by each first move: all rows of losses at once, parted by what one knows.

    A case is its stand, its losses to come, and its weight. What one does not know apart is one list of cases.
    """
    def weight_of(cases):
        return sum(weight for stand, losses, weight in cases)

    def full(cases):
        return [(part.full, losses, weight) for stand, losses, weight in cases]

    def wait(cases):
        behind = [(stand - losses[0], losses[1:], weight) for stand, losses, weight in cases]
        fallen = [case for case in behind if case[0] < part.mark]
        standing = [case for case in behind if case[0] >= part.mark]
        return prices.fall * weight_of(fallen) + least(full(fallen)) + least(standing)

    def change(cases):
        return prices.change * weight_of(cases) + wait(full(cases))

    def look(cases):
        apart = [[case for case in cases if case[0] == stand] for stand in range(part.mark, part.full + 1)]
        return prices.look * weight_of(cases) + sum(min(wait(group), change(group)) for group in apart if group)

    def least(cases):
        if not cases or not cases[0][1]:
            return 0
        return min(wait(cases), look(cases), change(cases))

    cases = [(part.mark + at, losses, weight * prod(part.shares[lost] for lost in losses))
             for at, weight in enumerate(weights)
             for losses in product(range(len(part.shares)), repeat=rounds)]
    cases = [case for case in cases if case[2] > 0]
    if rounds == 0:
        return 0, 0, 0
    return wait(cases), look(cases), change(cases)


def looking_asks(times, sizes):
    """Parts, weights, prices and rounds; sizes: pairs of rounds and the greatest full with them."""
    source = random.Random(times)
    for again in range(times):
        rounds, most = source.choice(sizes)
        full = source.randint(1, most)
        shares = [0]
        while not any(shares):
            shares = [source.choice((0, 1, 2, 3, 9)) for k in range(source.randint(1, 4 if rounds < 3 else 3))]
        part = Shared(full, source.randint(0, full), shares)
        weights = [0]
        while not any(weights):
            weights = [source.choice((0, 0, 1, 2, 7)) for k in range(part.full - part.mark + 1)]
        prices = LookPrices(source.choice((0, 1, 2, 9)), source.choice((0, 3, 10, 99)), source.choice((0, 5, 30, 99)))
        yield part, weights, prices, rounds


SMALL = ((0, 6), (1, 6), (2, 6), (2, 4), (3, 3), (3, 4), (4, 1))


class LookPricesTest(unittest.TestCase):
    def test_fields_at_both_bounds(self):
        for look, change, fall in product((0, 1, 98, 99), repeat=3):
            self.assertEqual(fields_of(LookPrices(look, change, fall)), {"look": look, "change": change, "fall": fall})

    def test_by_name_in_any_order(self):
        for prices in by_names(LookPrices, **RIGHT):
            self.assertEqual(fields_of(prices), RIGHT)

    def test_refusals(self):
        wrong = (-1, 100, GREAT, -GREAT, *NOT_WHOLE)
        check_refusals(self, LookPrices, RIGHT, [(name, wrong, (NoWorks, at)) for at, name in enumerate(RIGHT)])
        self.assertEqual(refusal_of(LookPrices, None, True, -1), (NoWorks, 0))
        self.assertEqual(refusal_of(LookPrices, 0, True, -1), (NoWorks, 1))


class RiskTest(unittest.TestCase):
    def test_by_hand(self):
        part = Shared(1, 0, [1, 1])
        prices = LookPrices(1, 20, 50)
        # At 0 it falls in one of two cases: 25 on an average, a change costs 20 and keeps it for this round.
        self.assertEqual(least_risk(part, 0, prices, 1), 20 * 2)
        self.assertEqual(least_risk(part, 1, prices, 1), 0)
        self.assertEqual(best_move(part, [1, 0], prices, 1), "change")
        self.assertEqual(best_move(part, [0, 1], prices, 1), "wait")
        # Either of both: to wait costs 12 and a half, to look 1 and in one of two cases 20.
        self.assertEqual(risk_of(part, [1, 1], prices, 1), (1 + 10) * 2 * 2)
        self.assertEqual(best_move(part, [1, 1], prices, 1), "look")

    def test_two_rounds_by_hand(self):
        part = Shared(1, 0, [1, 1])
        prices = LookPrices(1, 20, 50)
        # Full at first, it is at 0 or 1 at the next round's beginning, and one looks then.
        self.assertEqual(least_risk(part, 1, prices, 2), 11 * 4)
        self.assertEqual(best_move(part, [0, 1], prices, 2), "wait")
        # At 0: who waits pays 50 in one of two cases and is full then, else is at 0 still, and pays 20.
        self.assertEqual(least_risk(part, 0, prices, 2), (20 + 11) * 4)
        self.assertEqual(best_move(part, [1, 0], prices, 2), "change")

    def test_no_rounds(self):
        for part, weights, prices, rounds in looking_asks(50, SMALL):
            self.assertEqual(risk_of(part, weights, prices, 0), 0)
            for stand in range(part.mark, part.full + 1):
                self.assertEqual(least_risk(part, stand, prices, 0), 0)
            self.assertEqual(refusal_of(best_move, part, weights, prices, 0), (NoRounds,))

    def test_against_all_rows_of_losses(self):
        moves = {}
        for part, weights, prices, rounds in looking_asks(500, SMALL):
            costs = costs_by_hand(part, weights, prices, rounds)
            for row in (weights, tuple(weights)):
                told = risk_of(part, row, prices, rounds)
                self.assertEqual(told, min(costs))
                self.assertIs(type(told), int)
                if rounds > 0:
                    move = best_move(part, row, prices, rounds)
                    self.assertEqual(move, ("wait", "look", "change")[costs.index(min(costs))])
                    moves[move, rounds] = moves.get((move, rounds), 0) + 1
        for move, rounds in product(("wait", "look", "change"), (1, 2, 3)):
            self.assertGreater(moves[move, rounds], 3, (move, rounds))

    def test_known_stands(self):
        for part, weights, prices, rounds in looking_asks(150, SMALL):
            for stand in range(part.mark, part.full + 1):
                known = [int(at == stand) for at in range(part.mark, part.full + 1)]
                told = least_risk(part, stand, prices, rounds)
                self.assertEqual(told, risk_of(part, known, prices, rounds))
                self.assertEqual(told, min(costs_by_hand(part, known, prices, rounds)))
                self.assertIs(type(told), int)

    def test_ties_in_the_order_wait_look_change(self):
        part = Shared(1, 0, [1, 1])
        for weights, prices, move in (
            ([1, 0], (0, 25, 50), "wait"), ([1, 0], (0, 24, 50), "look"), ([1, 0], (1, 24, 50), "change"),
            ([1, 0], (0, 26, 50), "wait"), ([0, 1], (0, 0, 50), "wait"), ([1, 1], (0, 0, 50), "look"),
            ([1, 1], (1, 0, 50), "change"), ([1, 1], (0, 0, 0), "wait"), ([1, 1], (0, 1, 50), "look"),
        ):
            with self.subTest(weights=weights, prices=prices):
                costs = costs_by_hand(part, weights, LookPrices(*prices), 1)
                self.assertEqual(("wait", "look", "change")[costs.index(min(costs))], move)
                self.assertEqual(best_move(part, weights, LookPrices(*prices), 1), move)

    def test_a_look_and_a_change_for_nothing(self):
        part = Shared(3, 1, [2, 1, 1])
        for rounds in range(1, 4):
            # Changed in each round for nothing it never falls.
            self.assertEqual(risk_of(part, [1, 2, 3], LookPrices(9, 0, 99), rounds), 0)
            self.assertEqual(best_move(part, [1, 2, 3], LookPrices(9, 0, 99), rounds), "change")
            free = risk_of(part, [1, 2, 3], LookPrices(0, 7, 99), rounds)
            self.assertEqual(free, min(costs_by_hand(part, [1, 2, 3], LookPrices(0, 7, 99), rounds)))
            self.assertLessEqual(free, risk_of(part, [1, 2, 3], LookPrices(1, 7, 99), rounds))

    def test_no_price_of_a_fall(self):
        for part, weights, prices, rounds in looking_asks(60, SMALL):
            free = LookPrices(prices.look, prices.change, 0)
            self.assertEqual(risk_of(part, weights, free, rounds), 0)
            if rounds:
                self.assertEqual(best_move(part, weights, free, rounds), "wait")

    def test_shares_that_never_fall(self):
        for shares in ((1,), (9,), (4, 0), (2, 0, 0, 0)):
            for full, rounds in product(range(1, 7), range(3)):
                part = Shared(full, 0, shares)
                weights = [1] * (full + 1)
                self.assertEqual(risk_of(part, weights, LookPrices(0, 0, 99), rounds), 0)
                if rounds:
                    self.assertEqual(best_move(part, weights, LookPrices(0, 0, 99), rounds), "wait")

    def test_falls_in_every_round(self):
        part = Shared(2, 2, [0, 3])
        for rounds in range(4):
            self.assertEqual(least_risk(part, 2, LookPrices(0, 0, 7), rounds), 7 * rounds * 3 ** rounds)
            self.assertEqual(risk_of(part, [5], LookPrices(1, 1, 7), rounds), 5 * 7 * rounds * 3 ** rounds)

    def test_three_times_the_weights_have_three_times_the_risk(self):
        for part, weights, prices, rounds in looking_asks(150, SMALL):
            told = risk_of(part, weights, prices, rounds)
            for times in (1, 2, 3, 100000):
                greater = [weight * times for weight in weights]
                self.assertEqual(risk_of(part, greater, prices, rounds), times * told)
                if rounds:
                    move = best_move(part, weights, prices, rounds)
                    self.assertEqual(best_move(part, greater, prices, rounds), move)

    def test_weights_of_a_million(self):
        part = Shared(2, 0, [1, 1])
        prices = LookPrices(1, 5, 20)
        for weights in ([MILLION] * 3, [0, 0, MILLION], [MILLION, 1, 0]):
            costs = costs_by_hand(part, weights, prices, 2)
            self.assertEqual(risk_of(part, weights, prices, 2), min(costs))
        for at in range(3):
            weights = [MILLION] * 3
            weights[at] += 1
            for rounds in range(1, 4):
                self.assertEqual(refusal_of(risk_of, part, weights, prices, rounds), (NoStands,))
                self.assertEqual(refusal_of(best_move, part, weights, prices, rounds), (NoStands,))

    def test_the_greatest_are_answered_soon(self):
        begun = time.monotonic()
        for full, rounds in ((6, 2), (4, 3), (1, 4)):
            for mark in range(full + 1):
                part = Shared(full, mark, [9, 9, 9, 9])
                told = risk_of(part, [MILLION] * (full - mark + 1), LookPrices(3, 40, 99), rounds)
                self.assertGreater(told, 0)
                self.assertIn(best_move(part, [1] * (full - mark + 1), LookPrices(3, 40, 99), rounds),
                              ("wait", "look", "change"))
                self.assertGreaterEqual(least_risk(part, full, LookPrices(3, 40, 99), rounds), 0)
        self.assertLess(time.monotonic() - begun, 4)


class RefusalsTest(unittest.TestCase):
    part = Shared(3, 1, [2, 1])
    prices = LookPrices(1, 20, 50)
    no_weights = (
        *NOT_ROWS, *ODD_ROWS, [], [1], [1, 1], [1, 1, 1, 1], [0, 0, 0], (0, 0, 0), [-1, 1, 1], [1, 1, MILLION + 1],
        [True, 1, 1], [0, 0, True], [1, False, 0], [1, 1, None], ["1", 1, 1], [[1], 1, 1], [[1, 1, 1]], [1, 1, GREAT],
        [0, 0, -GREAT], {0: 1, 1: 1, 2: 1}, "111",
    )

    def test_risk_of(self):
        right = {"part": self.part, "weights": [1, 0, 2], "prices": self.prices, "rounds": 2}
        check_refusals(self, risk_of, right, (
            ("weights", self.no_weights, (NoStands,)),
            ("rounds", (-1, 5, GREAT, -GREAT, *NOT_WHOLE), (NoRounds,)),
        ))

    def test_best_move(self):
        right = {"part": self.part, "weights": [1, 0, 2], "prices": self.prices, "rounds": 2}
        check_refusals(self, best_move, right, (
            ("weights", self.no_weights, (NoStands,)),
            ("rounds", (-1, 0, 5, GREAT, -GREAT, *NOT_WHOLE), (NoRounds,)),
        ))

    def test_least_risk(self):
        right = {"part": self.part, "stand": 2, "prices": self.prices, "rounds": 2}
        check_refusals(self, least_risk, right, (
            ("stand", (0, 4, -1, GREAT, -GREAT, *NOT_WHOLE), (NoStands,)),
            ("rounds", (-1, 5, GREAT, -GREAT, *NOT_WHOLE), (NoRounds,)),
        ))

    def test_of_the_greatest_the_refusals(self):
        for full, rounds in ((6, 3), (5, 3), (6, 4), (2, 4)):
            part = Shared(full, 0, [1, 1])
            self.assertEqual(refusal_of(risk_of, part, [1] * full, self.prices, rounds), (NoStands,))
            self.assertEqual(refusal_of(best_move, part, [0] * (full + 1), self.prices, rounds), (NoStands,))
            self.assertEqual(refusal_of(least_risk, part, full + 1, self.prices, rounds), (NoStands,))
            self.assertEqual(refusal_of(risk_of, part, [1] * (full + 1), self.prices, 5), (NoRounds,))

    def test_by_name_in_any_order(self):
        right = {"part": self.part, "weights": [1, 0, 2], "prices": self.prices, "rounds": 2}
        costs = costs_by_hand(**right)
        told = by_names(risk_of, **right)
        self.assertEqual(told, [min(costs)] * 24)
        self.assertTrue(all(is_told(answer) for answer in told))
        move = ("wait", "look", "change")[costs.index(min(costs))]
        self.assertEqual(by_names(best_move, **right), [move] * 24)
        self.assertEqual(right["weights"], [1, 0, 2])
        del right["weights"]
        answer = min(costs_by_hand(self.part, [0, 1, 0], self.prices, 2))
        self.assertEqual(by_names(least_risk, stand=2, **right), [answer] * 24)


if __name__ == "__main__":
    unittest.main()
