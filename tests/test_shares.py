import random
import unittest
from itertools import combinations, product
from math import prod

from helper import GREAT, NOT_ROWS, NOT_WHOLE, ODD_ROWS, by_names, check_refusals, fields_of, is_told, refusal_of
from wearplan.errors import NoPart, NoPlan, NoRounds, NoStands
from wearplan.shares import Shared, chance_of_fall, total_of, weights_behind

RIGHT = {"full": 4, "mark": 1, "shares": [5, 3, 0, 1]}
WRONG = {
    "full": (0, -1, 7, GREAT, -GREAT, *NOT_WHOLE),
    "mark": (-1, 5, 7, GREAT, -GREAT, *NOT_WHOLE),
    "shares": (
        *NOT_ROWS, *ODD_ROWS, [], (), [1] * 5, (0, 0, 0, 0, 1), [0], (0, 0), [0] * 4, [-1], [10], [1, -1], [1, GREAT],
        (1, True), [False, 1], [1, None], ["1"], [[1]], [1, {}], [-GREAT, 1], [0, 0, 10, 0], {0: 1}, [True],
    ),
}


def behind_by_hand(part, stand, rounds, changes):
    """The weights by going through all rows of losses one by one."""
    told = [0] * (part.full - part.mark + 2)
    for losses in product(range(len(part.shares)), repeat=rounds):
        weight = prod(part.shares[lost] for lost in losses)
        left = stand
        for k, lost in enumerate(losses):
            left = (part.full if k in changes else left) - lost
            if left < part.mark:
                break
        told[-1 if left < part.mark else left - part.mark] += weight
    return tuple(told)


def random_shared(source):
    full = source.randint(1, 6)
    shares = [0]
    while not any(shares):
        shares = [source.choice((0, 1, 2, 5, 9)) for k in range(source.randint(1, 4))]
    return Shared(full, source.randint(0, full), shares)


def all_changes(rounds):
    return [row for size in range(rounds + 1) for row in combinations(range(rounds), size)]


class SharedTest(unittest.TestCase):
    def test_fields_at_both_bounds(self):
        rows = ((1,), (9,), (0, 0, 0, 1), (9, 9, 9, 9), (0, 1), (1, 0), (0, 0, 9))
        for full in range(1, 7):
            for mark, shares in product((0, full), rows):
                for row in (shares, list(shares)):
                    part = Shared(full, mark, row)
                    self.assertEqual(fields_of(part), {"full": full, "mark": mark, "shares": shares})
                    self.assertIs(type(part.shares), tuple)
                    self.assertTrue(all(is_told(value) for value in fields_of(part).values()))

    def test_a_list_changed_behind_the_call(self):
        shares = [5, 3]
        part = Shared(4, 1, shares)
        self.assertEqual(shares, [5, 3])
        shares[0] = 9
        shares.append(1)
        self.assertEqual(part.shares, (5, 3))
        self.assertEqual(total_of(part), 8)
        self.assertEqual(weights_behind(part, 4, 1, []), (0, 0, 3, 5, 0))

    def test_by_name_in_any_order(self):
        for part in by_names(Shared, **RIGHT):
            self.assertEqual(fields_of(part), {**RIGHT, "shares": (5, 3, 0, 1)})

    def test_refusals(self):
        check_refusals(self, Shared, RIGHT, [(name, WRONG[name], (NoPart, at)) for at, name in enumerate(RIGHT)])

    def test_mark_up_to_full_alone(self):
        for full in range(1, 7):
            self.assertEqual(Shared(full, full, [1]).mark, full)
            self.assertEqual(refusal_of(Shared, full, full + 1, [1]), (NoPart, 1))

    def test_total(self):
        for size in range(1, 5):
            for shares in product((0, 1, 4, 9), repeat=size):
                if any(shares):
                    self.assertEqual(total_of(Shared(3, 0, shares)), sum(shares))
        self.assertEqual(total_of(part=Shared(1, 1, [9] * 4)), 36)
        self.assertIs(type(total_of(Shared(1, 1, [1]))), int)


class WeightsTest(unittest.TestCase):
    def test_by_hand(self):
        part = Shared(3, 1, [2, 1])
        self.assertEqual(weights_behind(part, 3, 0, []), (0, 0, 1, 0))
        self.assertEqual(weights_behind(part, 3, 1, []), (0, 1, 2, 0))
        self.assertEqual(weights_behind(part, 3, 2, []), (1, 4, 4, 0))
        self.assertEqual(weights_behind(part, 1, 1, []), (2, 0, 0, 1))
        self.assertEqual(weights_behind(part, 1, 2, []), (4, 0, 0, 5))
        self.assertEqual(weights_behind(part, 1, 2, [0]), (1, 4, 4, 0))
        # A third of the cases has fallen in round 0: a change in round 1 does not mend them.
        self.assertEqual(weights_behind(part, 1, 2, [1]), (0, 2, 4, 3))

    def test_a_change_in_a_round_behind_a_fall(self):
        part = Shared(2, 0, [0, 0, 0, 1])
        for changes in all_changes(4):
            self.assertEqual(weights_behind(part, 2, 4, changes), (0, 0, 0, 1))
        part = Shared(2, 0, [1, 0, 0, 1])
        self.assertEqual(weights_behind(part, 2, 3, [2]), (0, 0, 1, 7))
        self.assertEqual(weights_behind(part, 2, 3, [0, 1, 2]), (0, 0, 1, 7))

    def test_against_all_rows_of_losses(self):
        source = random.Random(22)
        for again in range(150):
            part = random_shared(source)
            stand = source.randint(part.mark, part.full)
            for rounds in range(5):
                for changes in source.sample(all_changes(rounds), min(4, 2 ** rounds)):
                    answer = behind_by_hand(part, stand, rounds, changes)
                    for row in (changes, list(changes)):
                        told = weights_behind(part, stand, rounds, row)
                        self.assertTrue(is_told(told))
                        self.assertEqual(told, answer)
                        chance = chance_of_fall(part, stand, rounds, row)
                        self.assertTrue(is_told(chance))
                        self.assertEqual(chance, (answer[-1], sum(part.shares) ** rounds))

    def test_twelve_rounds(self):
        part = Shared(6, 0, [1, 1])
        answer = [0] * 8
        for losses in product((0, 1), repeat=12):
            answer[-1 if sum(losses) > 6 else 6 - sum(losses)] += 1
        self.assertEqual(weights_behind(part, 6, 12, []), tuple(answer))
        self.assertEqual(chance_of_fall(part, 6, 12, []), (answer[-1], 4096))
        self.assertEqual(weights_behind(part, 0, 12, range_row(12)), (0, 0, 0, 0, 0, 2048, 2048, 0))
        great = Shared(6, 0, [9, 9, 9, 9])
        self.assertEqual(chance_of_fall(great, 6, 12, range_row(12)), (0, 36 ** 12))
        self.assertEqual(sum(weights_behind(great, 0, 12, [11])), 36 ** 12)

    def test_all_cases_together(self):
        source = random.Random(23)
        for again in range(200):
            part = random_shared(source)
            stand = source.randint(part.mark, part.full)
            rounds = source.randint(0, 12)
            changes = source.choice(((), range_row(rounds), sorted(source.sample(range(rounds), rounds // 2))))
            told = weights_behind(part, stand, rounds, changes)
            self.assertEqual(len(told), part.full - part.mark + 2)
            self.assertEqual(sum(told), sum(part.shares) ** rounds)
            self.assertEqual(chance_of_fall(part, stand, rounds, changes), (told[-1], sum(told)))

    def test_with_one_change_more_it_has_fallen_in_no_more_cases(self):
        source = random.Random(24)
        fewer = 0
        for again in range(150):
            part = random_shared(source)
            stand = source.randint(part.mark, part.full)
            rounds = source.randint(1, 12)
            changes = sorted(source.sample(range(rounds), source.randint(0, rounds - 1)))
            fallen, cases = chance_of_fall(part, stand, rounds, changes)
            for more in range(rounds):
                if more not in changes:
                    told = chance_of_fall(part, stand, rounds, sorted(changes + [more]))
                    self.assertLessEqual(told[0], fallen)
                    self.assertEqual(told[1], cases)
                    fewer += told[0] < fallen
        self.assertGreater(fewer, 100)

    def test_refusals(self):
        no_changes = (
            *NOT_ROWS, *[row for row in ODD_ROWS if row != []], [-1], [3], [0, 3], [1, 1], [1, 0], [0, 2, 1], [True],
            [0, True], [False], [None], ["0"], [[0]], [GREAT], [0, 1, 2, 3], {0: 0}, (0, 0),
        )
        right = {"part": Shared(4, 1, [5, 3]), "stand": 4, "rounds": 3, "changes": [0, 2]}
        for function in (weights_behind, chance_of_fall):
            check_refusals(self, function, right, (
                ("stand", (0, 5, -1, GREAT, -GREAT, *NOT_WHOLE), (NoStands,)),
                ("rounds", (-1, 13, GREAT, -GREAT, *NOT_WHOLE), (NoRounds,)),
                ("changes", no_changes, (NoPlan, -1)),
            ))

    def test_changes_are_of_the_rounds(self):
        part = Shared(4, 1, [5, 3])
        for rounds in range(13):
            for k in range(14):
                refusal = None if k < rounds else (NoPlan, -1)
                self.assertEqual(refusal_of(weights_behind, part, 4, rounds, [k]), refusal)
                self.assertEqual(refusal_of(chance_of_fall, part, 4, rounds, (k,)), refusal)
            self.assertIsNone(refusal_of(weights_behind, part, 4, rounds, range_row(rounds)))

    def test_by_name_in_any_order(self):
        right = {"part": Shared(3, 1, [2, 1]), "stand": 1, "rounds": 2, "changes": [1]}
        self.assertEqual(by_names(weights_behind, **right), [(0, 2, 4, 3)] * 24)
        self.assertEqual(by_names(chance_of_fall, **right), [(3, 9)] * 24)
        self.assertEqual(right["changes"], [1])


def range_row(rounds):
    return list(range(rounds))


if __name__ == "__main__":
    unittest.main()
