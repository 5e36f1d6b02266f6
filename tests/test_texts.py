import random
import re
import unittest
from itertools import product

from helper import (
    GREAT, NOT_ROWS, NOT_WHOLE, ODD_ROWS, check_refusals, choices_by_hand, fields_of, is_told, listed, mixed, refusal_of,
)
from wearplan.errors import NoPlan, NoRounds, NoText
from wearplan.parts import Part
from wearplan.texts import read_part, read_plan, show_part, show_plan

NO_TEXTS = (None, True, False, 0, 1, -1, GREAT, [], ["rounds 0 from 0"], (), ("",), {}, {"a": 1}, [[]], [None])
NUMBER = "(0|[1-9][0-9]*)"
SIGNS = " \n:0123456789-+.rx~"


def plan_by_hand(text):
    """What read_plan tells, by patterns, or the row with which it refuses."""
    lines = text.split("\n")
    if lines[-1] == "":
        del lines[-1]
    head = None
    plan, done = [], -1
    for row, line in enumerate(lines, start=1):
        line = re.sub(" +", " ", line).strip(" ")
        if line == "":
            continue
        if head is None:
            head = re.fullmatch(f"rounds {NUMBER} from {NUMBER}", line)
            if head is None or int(head[1]) > 24 or int(head[2]) > 47:
                return row
            plan = [()] * int(head[1])
            continue
        match = re.fullmatch(f"{NUMBER}:(( [0-3])+)", line)
        if match is None:
            return row
        at = int(match[1]) - int(head[2])
        choice = tuple(int(word) for word in match[2].split())
        if at <= done or not 0 <= at < len(plan) or list(choice) != sorted(set(choice)):
            return row
        plan[at], done = choice, at
    return len(lines) + 1 if head is None else (tuple(plan), int(head[2]))


def part_by_hand(text):
    """The fields that read_part reads, by patterns, or the row with which it refuses."""
    if "\n" in text:
        return 0
    match = re.fullmatch(f" *full +([1-9]) +mark +([0-9]) +price +{NUMBER} +wear(( +[0-9]){{1,6}}) *", text)
    if match is None or int(match[2]) > int(match[1]) or int(match[3]) > 99:
        return 1
    wear = tuple(int(word) for word in match[4].split())
    return {"full": int(match[1]), "mark": int(match[2]), "wear": wear, "price": int(match[3])}


def bent_texts(text):
    """The text with one sign left out, put in, or put for another."""
    told = [text[:k] + text[k + 1:] for k in range(len(text))]
    told += [text[:k] + sign + text[k:] for k in range(len(text) + 1) for sign in SIGNS]
    told += [text[:k] + sign + text[k + 1:] for k in range(len(text)) for sign in SIGNS]
    return told


class ShowPlanTest(unittest.TestCase):
    def test_by_hand(self):
        self.assertEqual(show_plan([], 0), "rounds 0 from 0\n")
        self.assertEqual(show_plan([[]] * 24, 47), "rounds 24 from 47\n")
        self.assertEqual(show_plan([[], [0, 2], (), (3,)], 11), "rounds 4 from 11\n12: 0 2\n14: 3\n")
        self.assertEqual(show_plan([(0, 1, 2, 3)], 0), "rounds 1 from 0\n0: 0 1 2 3\n")

    def test_24_rounds_to_the_last(self):
        text = show_plan([[0, 1, 2, 3]] * 24, 47)
        self.assertEqual(text.split("\n")[1], "47: 0 1 2 3")
        self.assertEqual(text.split("\n")[-2:], ["70: 0 1 2 3", ""])
        self.assertEqual(text.count("\n"), 25)

    def test_refusals(self):
        no_plans = (*NOT_ROWS, [[]] * 25, [None] * 25, ((),) * 25)
        no_entries = ([[0], [4]], [[], [-1]], [[], [1, 0]], [[], [1, 1]], [(), True], [[], None], [[0], [True]], [[], 0],
                      [[], "0"], [[], {}], [[3], [[3]], [4]], [[], [GREAT]], ((0,), (0, None)))
        right = {"plan": [[0], [1, 3]], "first": 5}
        check_refusals(self, show_plan, right, (
            ("plan", no_plans, (NoPlan, -1)),
            ("plan", no_entries, (NoPlan, 1)),
            ("first", (-1, 48, GREAT, -GREAT, *NOT_WHOLE), (NoRounds,)),
        ))
        for thing in ODD_ROWS:
            refusal = None if repr(thing) in ("[[]]", "[()]", "((),)", "[[0]]", "((0,),)") else (NoPlan, 0)
            refusal = (NoPlan, 1) if repr(thing) == "[[0], None]" else refusal
            self.assertEqual(refusal_of(show_plan, thing, 0), refusal)


class ReadPlanTest(unittest.TestCase):
    def test_read_back(self):
        source = random.Random(25)
        choices = choices_by_hand(4)
        for rounds, first in product(range(25), (0, 1, 9, 23, 46, 47)):
            for plan in (((),) * rounds, (choices[-1],) * rounds, tuple(source.choice(choices) for k in range(rounds)),
                         tuple(source.choice(((), (), (1, 2))) for k in range(rounds))):
                text = show_plan(plan, first)
                self.assertIs(type(text), str)
                for rows in (listed(plan), mixed(plan)):
                    self.assertEqual(show_plan(rows, first), text)
                told = read_plan(text)
                self.assertTrue(is_told(told))
                self.assertEqual(told, (plan, first))
                self.assertEqual(read_plan(text[:-1]), (plan, first))
                self.assertEqual(read_plan("\n \n" + text.replace(" ", "   ").replace("\n", " \n  \n\n ")), (plan, first))

    def test_every_choice_and_round(self):
        for choice in choices_by_hand(4)[1:]:
            words = " ".join(map(str, choice))
            for first in (0, 47):
                for k in range(24):
                    plan = ((),) * k + (choice,) + ((),) * (23 - k)
                    self.assertEqual(read_plan(f"rounds 24 from {first}\n{first + k}: {words}"), (plan, first))

    def test_blanks_and_empty_lines(self):
        answer = (((), (0, 2)), 3)
        for text in (
            "rounds 2 from 3\n4: 0 2\n", "rounds 2 from 3\n4: 0 2", "\nrounds 2 from 3\n4: 0 2", "  \n\n rounds 2 from 3\n4: 0 2",
            "   rounds   2  from    3   \n   4:   0   2   \n", "rounds 2 from 3\n\n\n4: 0 2\n\n\n", "rounds 2 from 3\n   \n4: 0 2\n ",
        ):
            self.assertEqual(read_plan(text), answer)

    def test_long_texts(self):
        for many in (600, 640, 700, 5000):
            blanks = " " * many
            self.assertEqual(read_plan(f"rounds 2 from 3\n4:{blanks}0 2"), (((), (0, 2)), 3))
            self.assertEqual(read_plan("\n" * many + "rounds 2 from 3"), (((), ()), 3))
            self.assertEqual(refusal_of(read_plan, "\n" * many), (NoText, many + 1))
            self.assertEqual(refusal_of(read_plan, "\n" * many + "x"), (NoText, many + 1))
            self.assertEqual(refusal_of(read_plan, f"rounds {'9' * many} from 3"), (NoText, 1))
            self.assertEqual(fields_of(read_part(f"full 5{blanks}mark 0 price 1 wear 1"))["full"], 5)
            self.assertEqual(refusal_of(read_part, f"full {'9' * many} mark 0 price 1 wear 1"), (NoText, 1))

    def test_no_line_that_counts(self):
        for text, row in (("", 1), ("\n", 2), ("\n\n", 3), (" ", 2), ("   ", 2), (" \n", 2), ("\n ", 3), (" \n \n\n", 4)):
            self.assertEqual(refusal_of(read_plan, text), (NoText, row))

    def test_no_text(self):
        for thing in NO_TEXTS:
            self.assertEqual(refusal_of(read_plan, thing), (NoText, 0))

    def test_heads_that_are_not_as_told(self):
        for line in (
            "rounds 2 from", "rounds 2 3", "2 from 3", "rounds from 3", "rounds 2 from 3 4", "Rounds 2 from 3", "rounds 2 From 3",
            "round 2 from 3", "roundss 2 from 3", "rounds 2 form 3", "rounds2 from 3", "rounds 2from 3", "rounds 2 from3",
            "rounds 02 from 3", "rounds 2 from 03", "rounds 00 from 3", "rounds 2 from 00", "rounds +2 from 3", "rounds -2 from 3",
            "rounds 2 from -3", "rounds 2 from +3", "rounds -1 from 3", "rounds 2 from -1", "rounds -0 from 3", "rounds 25 from 3", "rounds 2 from 48", "rounds 2. from 3",
            "rounds 2 from 3.", "rounds 2, from 3", "rounds 240 from 3", "rounds 2 from 100", "rounds 2: from 3", "rounds 2 from 3:",
            "from 3 rounds 2", "rounds rounds 2 from 3", "rounds 2 from from 3", "rounds 2 from 3 rounds 2 from 3", "rounds two from 3",
            "4: 0 2", "x", ":", "0", "rounds 1_0 from 3", "rounds " + "9" * 600 + " from 3", "rounds 2 from " + "0" * 600,
        ):
            for ahead in (0, 1, 3):
                text = "\n" * ahead + line + "\n4: 0 2\n"
                with self.subTest(text=text):
                    self.assertEqual(refusal_of(read_plan, text), (NoText, ahead + 1))
                    self.assertEqual(plan_by_hand(text), ahead + 1)

    def test_bounds(self):
        for rounds, first in product((0, 9, 10, 24, 25, 26, 99), (0, 9, 10, 47, 48, 49, 99)):
            text = f"rounds {rounds} from {first}"
            if rounds <= 24 and first <= 47:
                self.assertEqual(read_plan(text), (((),) * rounds, first))
            else:
                self.assertEqual(refusal_of(read_plan, text), (NoText, 1))

    def test_rounds_that_are_not_as_told(self):
        for line in (
            "4", "4:", "4 : 0", ": 0", "4:0", "4 0", "4:: 0", "04: 0", "+4: 0", "-4: 0", "4: 4", "4: -1", "4: +1", "4: 00", "4: 01",
            "4: 0 0", "4: 1 0", "4: 0 1 1", "4: 0 2 1", "4: 0, 1", "4: 0,1", "4: a", "4: 0 x", "x: 0", "2: 0", "6: 0", "7: 0", "0: 0",
            "48: 0", "4: 0 1 2 3 4", "4: 0 1 2 3 3", "4: 10", "4: 3 4", "4.: 0", "4:. 0", "4; 0", "rounds 3 from 3", "4: 0:", "4: 0 :",
            "4: 0 5: 1", "round 4: 0", "4: - 1", "4: 1.", "9" * 500 + ": 0", "4: " + "1" * 500, "40: 0", "5 4: 0", ":4 0", "4: 4 0",
        ):
            for between in (0, 1, 2):
                text = "rounds 3 from 3\n" + " \n" * between + line + "\n5: 1\n"
                with self.subTest(text=text):
                    self.assertEqual(refusal_of(read_plan, text), (NoText, between + 2))
                    self.assertEqual(plan_by_hand(text), between + 2)

    def test_not_behind_the_one_before(self):
        self.assertEqual(read_plan("rounds 3 from 3\n3: 0\n4: 1\n5: 2"), (((0,), (1,), (2,)), 3))
        for text, row in (
            ("rounds 3 from 3\n4: 0\n4: 0", 3), ("rounds 3 from 3\n4: 0\n4: 1", 3), ("rounds 3 from 3\n4: 0\n3: 1", 3),
            ("rounds 3 from 3\n5: 0\n\n4: 1", 4), ("rounds 3 from 3\n3: 0\n5: 1\n4: 1", 4), ("rounds 3 from 3\n3: 0\n5: 1\n5: 1", 4),
            ("rounds 0 from 3\n3: 0", 2), ("rounds 1 from 3\n4: 0", 2), ("rounds 1 from 3\n2: 0", 2), ("rounds 24 from 47\n71: 0", 2),
            ("rounds 3 from 3\n3: 0\nrounds 3 from 3", 3),
        ):
            self.assertEqual(refusal_of(read_plan, text), (NoText, row))

    def test_the_first_of_two_such_lines(self):
        bad = ("4", "4: 4", "x", "9: 0", "3: 0 0")
        for one, other in product(bad, bad):
            self.assertEqual(refusal_of(read_plan, f"rounds 3 from 3\n\n{one}\n{other}"), (NoText, 3))
            self.assertEqual(refusal_of(read_plan, f"rounds 3 from 48\n{one}\n{other}"), (NoText, 1))
            self.assertEqual(refusal_of(read_plan, f"\n  \nrounds 3 from 3\n3: 1\n \n{one}\n\n{other}"), (NoText, 6))

    def test_any_one_sign(self):
        for text in ("rounds 3 from 3\n3: 0\n5: 1 3\n", "rounds 12 from 9\n\n 10:  2\n11: 0 1 2 3", "rounds 0 from 0\n",
                     " rounds 24 from 47 \n47: 0\n70: 3\n", "rounds 1 from 1\n1: 1"):
            read = 0
            for other in bent_texts(text):
                answer = plan_by_hand(other)
                if isinstance(answer, tuple):
                    read += 1
                    self.assertEqual(read_plan(other), answer)
                else:
                    self.assertEqual(refusal_of(read_plan, other), (NoText, answer), other)
            self.assertGreater(read, 10)

    def test_any_two_signs(self):
        source = random.Random(26)
        for text in ("rounds 3 from 3\n3: 0\n5: 1 3\n", "rounds 12 from 9\n\n 10:  2\n11: 0 1 2 3"):
            others = bent_texts(text)
            for again in range(4000):
                other = source.choice(others)
                at = source.randrange(len(other))
                other = other[:at] + source.choice(SIGNS) + other[at + source.randrange(2):]
                answer = plan_by_hand(other)
                if isinstance(answer, tuple):
                    self.assertEqual(read_plan(other), answer)
                else:
                    self.assertEqual(refusal_of(read_plan, other), (NoText, answer), other)

    def test_blanks_alone_are_blanks(self):
        for text in ("rounds 2 from 3\t\n", "rounds\t2 from 3", "rounds 2 from 3\r", "rounds 2\xa0from 3", "rounds \u0662 from 3"):
            self.assertEqual(refusal_of(read_plan, text), (NoText, 1))
        self.assertEqual(refusal_of(read_plan, "rounds 2 from 3\n\t\n"), (NoText, 2))
        self.assertEqual(refusal_of(read_plan, "rounds 2 from 3\n3: 0\x0c4: 1"), (NoText, 2))


class PartTextTest(unittest.TestCase):
    good = "full 9 mark 2 price 12 wear 1 0 3"

    def test_by_hand(self):
        self.assertEqual(show_part(Part(9, 2, [1, 0, 3], 12)), self.good)
        self.assertEqual(show_part(Part(1, 0, (0,), 0)), "full 1 mark 0 price 0 wear 0")
        self.assertEqual(show_part(part=Part(9, 9, [9] * 6, 99)), "full 9 mark 9 price 99 wear 9 9 9 9 9 9")

    def test_read_back_at_both_bounds(self):
        wears = ((0,), (9,), (0,) * 6, (9,) * 6, (0, 9), (1, 2, 3, 4, 5))
        for full in range(1, 10):
            for mark, wear, price in product((0, full), wears, (0, 1, 9, 10, 98, 99)):
                answer = {"full": full, "mark": mark, "wear": wear, "price": price}
                text = show_part(Part(**answer))
                self.assertIs(type(text), str)
                for other in (text, "  " + text, text + "  ", text.replace(" ", "   "), " " + text.replace(" ", "  ") + " "):
                    told = read_part(other)
                    self.assertIs(type(told), Part)
                    self.assertEqual(fields_of(told), answer)
                self.assertEqual(fields_of(read_part(text=text)), answer)

    def test_not_as_told(self):
        for text in (
            "", " ", "full", "full 9", "full 9 mark 2", "full 9 mark 2 price 12", "full 9 mark 2 price 12 wear",
            "mark 2 full 9 price 12 wear 1", "full 9 price 12 mark 2 wear 1", "full 9 mark 2 wear 1 price 12", "9 2 12 1 0 3",
            "Full 9 mark 2 price 12 wear 1", "full 9 marks 2 price 12 wear 1", "full 9 mark 2 prices 12 wear 1",
            "full 9 mark 2 price 12 wears 1", "full 9 mark 2 price 12 1", "full mark 2 price 12 wear 1", "full 9 2 price 12 wear 1",
            "full 9 mark price 12 wear 1", "full 9 mark 2 price wear 1", "full 9 mark 2 price 12 wear 1 x", "x full 9 mark 2 price 12 wear 1",
            "full 9 9 mark 2 price 12 wear 1", "full 9 mark 2 price 12 wear wear 1", "full 9 mark 2 price 12 wear 1 wear 1",
            "full 09 mark 2 price 12 wear 1", "full 9 mark 02 price 12 wear 1", "full 9 mark 2 price 012 wear 1",
            "full 9 mark 2 price 00 wear 1", "full 9 mark 2 price 12 wear 01", "full 9 mark 2 price 12 wear 00", "full 9 mark 00 price 12 wear 1",
            "full +9 mark 2 price 12 wear 1", "full 9 mark -0 price 12 wear 1", "full 9 mark 2 price -12 wear 1",
            "full 9 mark 2 price 12 wear -1", "full 9 mark 2 price 12 wear +1", "full 0 mark 0 price 12 wear 1", "full 10 mark 2 price 12 wear 1",
            "full 9 mark 10 price 12 wear 1", "full 5 mark 6 price 12 wear 1", "full 9 mark 2 price 100 wear 1", "full 9 mark 2 price 12 wear 10",
            "full 9 mark 2 price 12 wear 1 10", "full 9 mark 2 price 12 wear 1 1 1 1 1 1 1", "full 9, mark 2, price 12, wear 1",
            "full 9 mark 2 price 12 wear 1,0,3", "full9 mark 2 price 12 wear 1", "full 9mark 2 price 12 wear 1", "full 9 mark 2 price 12 wear1",
            "full 9 mark 2 price 12 wear 1.", "full: 9 mark 2 price 12 wear 1", "full 9 mark 2 price " + "9" * 600 + " wear 1",
            "full 9 mark 2 price 12 wear 1\t", "full\t9 mark 2 price 12 wear 1", "full x mark 2 price 12 wear 1", "full 9 mark 2 price 12 wear 1_0",
        ):
            with self.subTest(text=text):
                self.assertEqual(refusal_of(read_part, text), (NoText, 1))
                self.assertEqual(part_by_hand(text), 1)

    def test_a_line_feed_anywhere(self):
        for text in (self.good, "x", "full 99 mark 2", ""):
            for k in range(len(text) + 1):
                self.assertEqual(refusal_of(read_part, text[:k] + "\n" + text[k:]), (NoText, 0))
        self.assertEqual(refusal_of(read_part, self.good + "\n\n"), (NoText, 0))

    def test_no_text(self):
        for thing in (*NO_TEXTS, [self.good], {self.good: 1}, Part(9, 2, [1], 3)):
            self.assertEqual(refusal_of(read_part, thing), (NoText, 0))

    def test_any_one_sign(self):
        for text in (self.good, "full 1 mark 0 price 0 wear 0", " full 9  mark 9 price 99 wear 9 9 9 9 9 9"):
            read = 0
            for other in bent_texts(text):
                answer = part_by_hand(other)
                if isinstance(answer, dict):
                    read += 1
                    self.assertEqual(fields_of(read_part(other)), answer)
                else:
                    self.assertEqual(refusal_of(read_part, other), (NoText, answer), other)
            self.assertGreater(read, 10)


if __name__ == "__main__":
    unittest.main()
