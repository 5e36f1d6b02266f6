import unittest
from itertools import product

from helper import NOT_ROWS, NOT_WHOLE, by_names, fields_of, is_told
from wearplan.errors import NoPart, NoRounds, NoStands
from wearplan.parts import Part, lasts, loss, worn

RIGHT = {"full": 5, "mark": 2, "wear": (1, 0, 2), "price": 7}
GREAT = 10 ** 40
WRONG_ROWS = (
    *NOT_ROWS, [], (), [1] * 7, (0,) * 7, [0] * 100, [-1], [10], [GREAT], (1, 2, 10), (-1, 2, 3), [1, 2, 3, 4, 5, 10],
    [True], [1, False], [None], [1, None], ["1"], ("1", "2"), [[1]], [(1,), 2], [{}], [{1: 1}], [[[[[1]]]]],
)
WRONG = {
    "full": (0, -1, 10, GREAT, -GREAT, *NOT_WHOLE),
    "mark": (-1, 6, 10, GREAT, -GREAT, *NOT_WHOLE),
    "wear": WRONG_ROWS,
    "price": (-1, 100, GREAT, -GREAT, *NOT_WHOLE),
}
ORDER = ("full", "mark", "wear", "price")

SOME_PARTS = [
    Part(full, mark, wear, 3)
    for full, mark in ((1, 0), (1, 1), (5, 0), (5, 2), (9, 0), (9, 3), (9, 9))
    for wear in ((0,), (1,), (9,), (0, 1), (2, 0, 1), (0, 0, 0, 0, 0, 1), (0, 0, 0, 0, 0, 9), (3, 0, 0, 0))
]


def falls_by_hand(part, stand, first, rounds):
    """The stand behind so many rounds, reckoned as one sum, or None: losses are never below 0."""
    left = stand - sum(part.wear[k % len(part.wear)] for k in range(first, first + rounds))
    return left if left >= part.mark else None


class PartTest(unittest.TestCase):
    def refused_at(self, **fields):
        with self.assertRaises(NoPart) as caught:
            Part(**fields)
        return caught.exception.at

    def test_fields_at_both_bounds(self):
        wears = ((0,), (9,), (0,) * 6, (9,) * 6, (0, 9), (1, 2, 3, 4, 5))
        for full in range(1, 10):
            for mark, wear, price in product((0, full), wears, (0, 1, 98, 99)):
                part = Part(full, mark, wear, price)
                self.assertEqual(
                    fields_of(part), {"full": full, "mark": mark, "wear": wear, "price": price})

    def test_wear_of_every_length_as_list_and_as_tuple_is_told_as_tuple(self):
        for many in range(1, 7):
            for wear in (list(range(many)), tuple(range(many))):
                part = Part(5, 2, wear, 7)
                self.assertIs(type(part.wear), tuple)
                self.assertEqual(part.wear, tuple(range(many)))

    def test_fields_are_told_things(self):
        self.assertTrue(all(is_told(value) for value in fields_of(Part(5, 2, [1, 2], 7)).values()))

    def test_a_list_changed_behind_the_call(self):
        wear = [1, 0, 2]
        part = Part(5, 2, wear, 7)
        self.assertEqual(wear, [1, 0, 2])
        wear[0] = 9
        wear.append(4)
        self.assertEqual(part.wear, (1, 0, 2))
        self.assertEqual(loss(part, 0), 1)
        self.assertEqual(worn(part, 5, 0, 3), 2)
        wear.clear()
        self.assertEqual(lasts(part, 5, 0, 24), 3)

    def test_by_name_in_any_order(self):
        for part in by_names(Part, **RIGHT):
            self.assertEqual(fields_of(part), RIGHT)

    def test_each_wrong_field(self):
        for at, field in enumerate(ORDER):
            for thing in WRONG[field]:
                with self.subTest(field=field, thing=thing):
                    self.assertEqual(self.refused_at(**{**RIGHT, field: thing}), at)

    def test_mark_up_to_full_alone(self):
        for full in range(1, 10):
            self.assertEqual(Part(full, full, [0], 0).mark, full)
            self.assertEqual(self.refused_at(full=full, mark=full + 1, wear=[0], price=0), 1)

    def test_what_is_refused_is_not_changed(self):
        wear = [1, [2, {"a": [3]}]]
        self.assertEqual(self.refused_at(**{**RIGHT, "wear": wear}), 2)
        self.assertEqual(wear, [1, [2, {"a": [3]}]])

    def test_several_wrong_tell_the_first(self):
        some = {field: (WRONG[field][0], None, True, [None], "x") for field in ORDER}
        for wrong in product((False, True), repeat=4):
            if not any(wrong):
                continue
            for k in range(5):
                fields = {field: some[field][k] if bad else RIGHT[field] for field, bad in zip(ORDER, wrong)}
                with self.subTest(fields):
                    self.assertEqual(self.refused_at(**fields), wrong.index(True))


class LossTest(unittest.TestCase):
    def test_round_and_round(self):
        part = Part(9, 0, [4, 0, 7], 1)
        self.assertEqual([loss(part, k) for k in range(9)], [4, 0, 7] * 3)
        self.assertEqual([loss(part, k) for k in (30, 46, 47, 70, 71)], [4, 0, 7, 0, 7])

    def test_every_length(self):
        for many in range(1, 7):
            wear = [9 - k for k in range(many)]
            part = Part(9, 0, wear, 1)
            for k in range(100):
                self.assertEqual(loss(part, k), wear[k % many])

    def test_by_name_in_any_order(self):
        self.assertEqual(by_names(loss, part=Part(9, 0, [4, 0, 7], 1), round_number=5), [7, 7])


class WornTest(unittest.TestCase):
    def test_against_the_sum(self):
        for part in SOME_PARTS:
            for stand in range(part.mark, part.full + 1):
                for first, rounds in product((0, 1, 2, 5, 46, 47), (0, 1, 2, 3, 7, 23, 24)):
                    told = worn(part, stand, first, rounds)
                    self.assertEqual(told, falls_by_hand(part, stand, first, rounds))
                    self.assertTrue(is_told(told))

    def test_no_rounds_leave_the_stand(self):
        part = Part(5, 2, [9], 1)
        for stand in (2, 3, 5):
            for first in (0, 47):
                self.assertEqual(worn(part, stand, first, 0), stand)

    def test_at_the_mark_it_stands_and_below_it_falls(self):
        part = Part(5, 2, [1], 1)
        self.assertEqual(worn(part, 5, 0, 3), 2)
        self.assertIsNone(worn(part, 5, 0, 4))
        self.assertIsNone(worn(part, 2, 0, 1))
        self.assertEqual(worn(Part(5, 0, [1], 1), 5, 0, 5), 0)

    def test_the_first_round_counts(self):
        part = Part(9, 0, [1, 2, 4], 1)
        self.assertEqual([worn(part, 9, first, 1) for first in (0, 1, 2, 3, 47)], [8, 7, 5, 8, 5])
        self.assertEqual(worn(part, 9, 47, 2), 4)

    def test_falls_in_the_first_or_the_last_round(self):
        self.assertIsNone(worn(Part(9, 5, [5], 1), 9, 0, 24))
        late = Part(4, 1, [0, 0, 0, 0, 0, 1], 1)
        self.assertEqual(worn(late, 4, 0, 23), 1)
        self.assertIsNone(worn(late, 4, 0, 24))

    def test_never_falls(self):
        self.assertEqual(worn(Part(9, 9, [0], 1), 9, 47, 24), 9)


class LastsTest(unittest.TestCase):
    def test_greatest_number_of_rounds_that_it_stands(self):
        for part in SOME_PARTS:
            for stand in range(part.mark, part.full + 1):
                for first, most in product((0, 1, 5, 47), (0, 1, 2, 8, 24)):
                    standing = [n for n in range(most + 1) if worn(part, stand, first, n) is not None]
                    told = lasts(part, stand, first, most)
                    self.assertEqual(told, max(standing))
                    self.assertTrue(is_told(told))

    def test_edges(self):
        late = Part(4, 1, [0, 0, 0, 0, 0, 1], 1)
        for part, stand, first, most, answer in (
            (Part(9, 5, [5], 1), 9, 0, 24, 0),
            (Part(9, 5, [5], 1), 9, 47, 24, 0),
            (late, 4, 0, 24, 23),
            (late, 4, 0, 23, 23),
            (late, 4, 1, 24, 22),
            (late, 4, 47, 24, 18),
            (late, 1, 0, 24, 5),
            (Part(9, 9, [0], 1), 9, 0, 24, 24),
            (Part(9, 9, [0], 1), 9, 47, 0, 0),
            (Part(5, 2, [1], 1), 2, 3, 24, 0),
            (Part(5, 2, [1], 1), 5, 3, 24, 3),
            (Part(5, 2, [1], 1), 5, 3, 2, 2),
        ):
            with self.subTest(wear=part.wear, stand=stand, first=first, most=most):
                self.assertEqual(lasts(part, stand, first, most), answer)


class RunRefusalsTest(unittest.TestCase):
    part = Part(5, 1, [1, 0], 4)
    wrong_stands = (0, 6, -1, GREAT, -GREAT, *NOT_WHOLE)
    wrong_firsts = (-1, 48, GREAT, -GREAT, *NOT_WHOLE)
    wrong_rounds = (-1, 25, GREAT, -GREAT, *NOT_WHOLE)

    def test_no_stands(self):
        for asked, stand in product((worn, lasts), self.wrong_stands):
            with self.subTest(asked=asked, stand=stand), self.assertRaises(NoStands):
                asked(self.part, stand, 0, 3)

    def test_no_rounds(self):
        for asked in (worn, lasts):
            for first in self.wrong_firsts:
                with self.subTest(asked=asked, first=first), self.assertRaises(NoRounds):
                    asked(self.part, 3, first, 3)
            for rounds in self.wrong_rounds:
                with self.subTest(asked=asked, rounds=rounds), self.assertRaises(NoRounds):
                    asked(self.part, 3, 0, rounds)
            for first, rounds in zip(self.wrong_firsts, self.wrong_rounds):
                with self.subTest(asked=asked, first=first, rounds=rounds), self.assertRaises(NoRounds):
                    asked(self.part, 3, first, rounds)

    def test_rounds_are_looked_at_even_where_it_falls_at_once(self):
        for asked in (worn, lasts):
            with self.assertRaises(NoRounds):
                asked(Part(9, 9, [9], 1), 9, 0, 25)

    def test_both_wrong_tell_the_stand(self):
        for asked, stand in product((worn, lasts), self.wrong_stands):
            for first, rounds in ((48, 3), (None, 3), (0, 25), (0, None), (-1, -1), (True, False)):
                with self.subTest(asked=asked, stand=stand, first=first, rounds=rounds):
                    with self.assertRaises(NoStands):
                        asked(self.part, stand, first, rounds)

    def test_by_name_in_any_order(self):
        part = Part(9, 2, [1, 0, 3], 1)
        self.assertEqual(by_names(worn, part=part, stand=8, first=1, rounds=4), [4] * 24)
        self.assertEqual(by_names(lasts, part=part, stand=8, first=1, most=20), [4] * 24)

    def test_same_each_time_and_the_part_stays(self):
        part = Part(9, 2, [1, 0, 3], 1)
        before = fields_of(part)
        for again in range(3):
            self.assertEqual(worn(part, 8, 1, 4), 4)
            self.assertEqual(lasts(part, 8, 1, 20), 4)
            self.assertEqual(loss(part, 2), 3)
        self.assertEqual(fields_of(part), before)


if __name__ == "__main__":
    unittest.main()
