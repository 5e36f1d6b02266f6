import random
import time
import unittest
from fractions import Fraction
from itertools import product
from math import lcm

from helper import (
    GREAT, NOT_ROWS, NOT_WHOLE, ODD_ROWS, bent, check_refusals, choices_by_hand, holds_by_hand, is_told, listed, mixed,
    plans_by_hand, price_by_hand, refusal_of, walk_by_hand,
)
from wearplan.errors import NoneHolds, NoRounds, NoStands, Shut, TooGreat
from wearplan.ever import best_trip, is_trip, is_worths, mean_of, period, worths_of
from wearplan.parts import Part
from wearplan.works import Works

PUMP = Part(4, 1, [1], 7)
BELT = Part(3, 0, [0, 2], 2)
ROCK = Part(4, 4, [0], 9)
HARD = Part(4, 2, [0, 3], 1)
BOTH = Works([PUMP, BELT], 5, [])
NO_PARTS = Works([], 5, [])
NO_PARTS_SHUT = Works([], 5, [3])
NO_THINGS = (*NOT_ROWS, *[row for row in ODD_ROWS if row != []])


def turn_by_hand(works):
    return lcm(*[len(part.wear) for part in works.parts])


def small_ever(source, many, longest=3):
    """A works for ever that is looked at whole, prices and calls of 0 among them; not a few cannot go on."""
    parts = []
    for k in range(many):
        full = source.randint(1, 4)
        wear = [source.randint(0, source.choice((1, 1, 2, full))) for k in range(source.randint(1, longest))]
        parts.append(Part(full, source.randint(0, min(full, 1)), wear, source.choice((0, 1, 2, 5, 99))))
    return Works(parts, source.choice((0, 0, 1, 3, 99)), [])


def ever_asks(times, longest=3):
    """Works and stands of none to two parts."""
    source = random.Random(times)
    for again in range(times):
        works = small_ever(source, again % 3, longest)
        yield works, tuple(source.randint(part.mark, part.full) for part in works.parts)


def steps_by_hand(works, phase, stands):
    """The pairs of a choice and the stands behind one round of that phase, as far as it holds."""
    told = []
    for choice in choices_by_hand(len(works.parts)):
        answer = walk_by_hand(works, stands, (choice,), phase)
        if answer[0] == "holds":
            told.append((choice, answer[1][1]))
    return told


def places_by_hand(works, stands):
    """All pairs of a phase and stands that can come, round by round until none comes any more."""
    turn = turn_by_hand(works)
    found, coming = set(), {(0, tuple(stands))}
    while coming:
        found |= coming
        coming = {((phase + 1) % turn, behind) for phase, before in coming
                  for choice, behind in steps_by_hand(works, phase, before)} - found
    return sorted(found)


def legs_by_hand(works, stands):
    """For each stands that can come in phase 0: those behind one period, with the least price, of all plans."""
    turn = turn_by_hand(works)
    legs = {}
    for phase, before in places_by_hand(works, stands):
        if phase == 0:
            legs[before] = {}
            for plan in plans_by_hand(len(works.parts), turn):
                answer = walk_by_hand(works, before, plan, 0)
                if answer[0] == "holds":
                    price = price_by_hand(works, plan)
                    legs[before][answer[1][-1]] = min(price, legs[before].get(answer[1][-1], price))
    return legs


def mean_by_hand(works, stands):
    """The least price a round of all round trips in which no stands of phase 0 come twice, or None."""
    turn = turn_by_hand(works)
    legs = legs_by_hand(works, stands)
    means = []

    def go_on(path, price):
        for behind, more in legs[path[-1]].items():
            if behind == path[0]:
                means.append(Fraction(price + more, len(path) * turn))
            elif behind > path[0] and behind not in path:
                go_on(path + [behind], price + more)

    for begun in legs:
        go_on([begun], 0)
    return min(means, default=None)


def is_trip_by_hand(works, stands, lead, trip):
    """The same of plans, by walking lead and trip as one."""
    if not trip or len(trip) % turn_by_hand(works) or max(len(lead), len(trip)) > 300:
        return False
    answer = walk_by_hand(works, stands, tuple(lead) + tuple(trip), 0)
    return answer[0] == "holds" and answer[1][len(lead)] == answer[1][-1]


def is_number(thing):
    return type(thing) is int


def is_worths_by_hand(works, stands, price, rounds, thing):
    """The same, word by word."""
    if not isinstance(thing, (list, tuple)):
        return False
    worths = {}
    for entry in thing:
        if not isinstance(entry, (list, tuple)) or len(entry) != 3:
            return False
        phase, row, worth = entry
        if not is_number(phase) or not 0 <= phase < turn_by_hand(works) or not is_number(worth):
            return False
        if not isinstance(row, (list, tuple)) or len(row) != len(works.parts):
            return False
        for part, stand in zip(works.parts, row):
            if not is_number(stand) or not part.mark <= stand <= part.full:
                return False
        if (phase, *row) in worths:
            return False
        worths[(phase, *row)] = worth
    if (0, *stands) not in worths:
        return False
    for (phase, *row), worth in worths.items():
        for choice, behind in steps_by_hand(works, phase, row):
            later = worths.get(((phase + 1) % turn_by_hand(works), *behind))
            if later is None or rounds * price_by_hand(works, [choice]) + later < price + worth:
                return False
    return True


class PeriodTest(unittest.TestCase):
    def test_none_to_four_parts(self):
        for many in range(5):
            for sizes in product(range(1, 7), repeat=many):
                works = Works([Part(9, 0, [1] * size, 1) for size in sizes], 5, [0, 3])
                told = period(works)
                self.assertEqual(told, lcm(*sizes))
                self.assertIs(type(told), int)

    def test_by_hand(self):
        for sizes, answer in (((), 1), ((1,), 1), ((6,), 6), ((2, 4), 4), ((4, 6), 12), ((5, 6), 30), ((3, 4, 5, 6), 60)):
            self.assertEqual(period(Works([Part(1, 0, [0] * size, 1) for size in sizes], 0, [])), answer)


class IsTripTest(unittest.TestCase):
    def test_by_hand(self):
        # The pump is changed each third round, the belt each other one, in its phase 1 at the latest.
        one = Works([PUMP], 5, [])
        self.assertIs(is_trip(one, [4], [], [[], [], [], [0]]), False)
        self.assertIs(is_trip(one, [4], [[]], [[], [], [0]]), True)
        self.assertIs(is_trip(one, [3], (), ((), (), (0,))), True)
        self.assertIs(is_trip(one, [3], (), ((), (), ())), False)
        self.assertIs(is_trip(one, [1], [[0]], [[], [], [0]]), True)
        self.assertIs(is_trip(one, [1], [[]], [[], [], [0]]), False)
        two = Works([BELT], 5, [])
        self.assertIs(is_trip(two, [1], [], [[], [0]]), True)
        self.assertIs(is_trip(two, [1], [], [[0], []]), True)
        self.assertIs(is_trip(two, [1], [[]], [[0], []]), True)
        self.assertIs(is_trip(two, [1], [[]], [[], [0]]), False)
        self.assertIs(is_trip(two, [1], [[]], [[0]]), False)
        self.assertIs(is_trip(two, [3], [], [[], [0]]), False)

    def test_the_phase_behind_the_lead_counts(self):
        works = Works([Part(2, 0, [0, 0, 2], 1)], 0, [])
        for size in range(9):
            lead = [[0]] * size
            trip = [[], [], []]
            trip[(2 - size) % 3] = [0]
            self.assertIs(is_trip(works, [2], lead, trip), is_trip_by_hand(works, [2], lead, trip))
            for turned in range(3):
                other = trip[turned:] + trip[:turned]
                self.assertIs(is_trip(works, [2], lead, other), is_trip_by_hand(works, [2], lead, other))

    def test_all_short_trips(self):
        told = 0
        for works, stands in ever_asks(60):
            many, turn = len(works.parts), turn_by_hand(works)
            for size in range(0, (7, 7, 4)[many]):
                for trip in plans_by_hand(many, size):
                    for lead in ((), ((),), (tuple(range(many)),) * (turn + 1)):
                        answer = is_trip_by_hand(works, stands, lead, trip)
                        told += answer
                        self.assertIs(is_trip(works, stands, lead, trip), answer)
        self.assertGreater(told, 300)

    def test_best_trips_bent(self):
        held, broken = 0, 0
        for works, stands in ever_asks(150, 6):
            if turn_by_hand(works) > 12 or refusal_of(best_trip, works, stands):
                continue
            lead, trip = best_trip(works, stands)
            others = [(lead, trip), (lead, trip + trip), (lead + trip, trip), (lead, trip * 3), (lead, trip[1:]),
                      (lead, trip + trip[:1]), (lead[1:], trip), (lead, ()), (lead + trip, ())]
            for k in range(len(trip)):
                others.append((lead + trip[:k], trip[k:] + trip[:k]))
                others.append((lead, trip[:k] + trip[k + 1:]))
                for choice in choices_by_hand(len(works.parts)):
                    others.append((lead, trip[:k] + (choice,) + trip[k + 1:]))
            for k in range(len(lead)):
                others.append((lead[:k] + lead[k + 1:], trip))
                others.append((lead[:k] + (tuple(range(len(works.parts))),) + lead[k + 1:], trip))
            for one, other in others:
                answer = is_trip_by_hand(works, stands, one, other)
                held += answer
                broken += not answer
                for rows in (lambda thing: thing, listed, mixed):
                    self.assertIs(is_trip(works, stands, rows(one), rows(other)), answer)
            for k in range(len(trip)):
                self.assertIs(is_trip(works, list(stands), lead + trip[:k], trip[k:] + trip[:k]), True)
            self.assertIs(is_trip(works, stands, lead, trip + trip), True)
        self.assertGreater(min(held, broken), 500)

    def test_300_and_301_rounds(self):
        works = Works([ROCK], 5, [])
        for size in (1, 2, 299, 300, 301, 302, 600):
            self.assertIs(is_trip(works, [4], [], [[]] * size), size <= 300)
            self.assertIs(is_trip(works, [4], [[0]] * size, [[]]), size <= 300)
            self.assertIs(is_trip(works, [4], ((),) * size, ((0,),) * size), size <= 300)
            self.assertIs(is_trip(NO_PARTS, [], [()] * size, [[]] * size), size <= 300)
        late = Works([Part(4, 0, [0, 0, 0, 1], 1)], 5, [])
        trip = [[0] if k % 20 == 19 else [] for k in range(300)]
        self.assertIs(is_trip(late, [3], [], trip), is_trip_by_hand(late, [3], [], trip))
        trip = [[0] if k % 12 == 11 else [] for k in range(300)]
        self.assertIs(is_trip(late, [3], [], trip), True)
        self.assertIs(is_trip(late, [3], trip, trip), True)
        self.assertIs(is_trip(late, [3], trip, trip[:299]), False)
        self.assertIs(is_trip(late, [3], trip[:24], trip[:24]), True)

    def test_an_empty_trip(self):
        for works, stands in ((NO_PARTS, []), (BOTH, [4, 3]), (Works([ROCK], 0, []), [4])):
            for lead in ([], [[]], ()):
                self.assertIs(is_trip(works, stands, lead, []), False)
                self.assertIs(is_trip(works, stands, lead, ()), False)

    def test_no_multiple_of_the_period(self):
        works = Works([Part(4, 4, [0, 0, 0], 1)], 5, [])
        for size in range(1, 13):
            self.assertIs(is_trip(works, [4], [[]], [[]] * size), size % 3 == 0)
        pair = Works([Part(4, 4, [0, 0], 1), Part(4, 4, [0, 0, 0], 1)], 5, [])
        for size in range(1, 13):
            self.assertIs(is_trip(pair, [4, 4], [[]], [[]] * size), size % 6 == 0)

    def test_things_that_are_none(self):
        works = Works([ROCK], 5, [])
        plans = ((), [[]], [()], ((),), [[0]], ((0,),), [[0]] * 300)
        for one, other in product(plans, plans):
            self.assertIs(is_trip(works, [4], one, other), other != ())
        # By what is seen of them: a truth equals a number.
        things = [thing for thing in NO_THINGS if repr(thing) not in map(repr, plans)]
        self.assertEqual(len(NO_THINGS) - len(things), 5)
        for thing in (*things, [None], [[1]], [[0, 0]], [[True]], [[False]], [[], 0], [[[0]]], [[], [-1]], [{}], "0",
                      [[0], "0"], {0: [0]}, [[]] * 299 + [None], [[]] * 299 + [[GREAT]]):
            with self.subTest(thing=thing):
                self.assertIs(is_trip(works, [4], thing, thing), False)
                for plan in plans:
                    self.assertIs(is_trip(works, [4], plan, thing), False)
                    self.assertIs(is_trip(works, [4], thing, plan), False)


class BestTripTest(unittest.TestCase):
    def test_by_hand(self):
        lead, trip = best_trip(Works([PUMP], 5, []), [4])
        self.assertEqual(Fraction(*mean_of(Works([PUMP], 5, []), trip)), Fraction(12, 3))
        lead, trip = best_trip(Works([BELT], 5, []), [0])
        self.assertEqual(Fraction(*mean_of(Works([BELT], 5, []), trip)), Fraction(7, 2))
        # Both each other round: 14 in two rounds, dearer than the pump each third and the belt with it or apart.
        lead, trip = best_trip(BOTH, [4, 3])
        self.assertEqual(Fraction(*mean_of(BOTH, trip)), mean_by_hand(BOTH, (4, 3)))

    def test_without_parts(self):
        lead, trip = best_trip(NO_PARTS, [])
        self.assertIs(is_trip(NO_PARTS, [], lead, trip), True)
        self.assertEqual(mean_of(NO_PARTS, trip), (0, len(trip)))

    def test_against_another_way(self):
        kept, lost, led, free = 0, 0, 0, 0
        for works, stands in ever_asks(240):
            answer = mean_by_hand(works, stands)
            if answer is None:
                lost += 1
                self.assertEqual(refusal_of(best_trip, works, stands), (NoneHolds,))
                continue
            kept += 1
            told = best_trip(works, stands)
            self.assertTrue(is_told(told))
            lead, trip = told
            led += len(lead) > 0
            free += works.call == 0 < answer
            self.assertIs(is_trip(works, stands, lead, trip), True)
            self.assertIs(is_trip_by_hand(works, stands, lead, trip), True)
            self.assertEqual(Fraction(*mean_of(works, trip)), answer)
            self.assertEqual(best_trip(works, list(stands)), told)
        self.assertGreater(min(kept, lost, led, free), 20)

    def test_great_works_by_what_they_promise(self):
        source = random.Random(19)
        for again in range(25):
            works = small_ever(source, 2, 6)
            stands = tuple(source.randint(part.mark, part.full) for part in works.parts)
            if turn_by_hand(works) <= 12 and refusal_of(best_trip, works, stands) is None:
                lead, trip = best_trip(works, stands)
                self.assertIs(is_trip_by_hand(works, stands, lead, trip), True)
                # The worths are the paper for it: none is cheaper.
                self.assertIs(is_worths_by_hand(works, stands, *mean_of(works, trip), worths_of(works, stands)), True)

    def test_none_goes_on_for_ever(self):
        for parts, stands in (([HARD], [4]), ([PUMP, HARD], [4, 4]), ([HARD, PUMP], [2, 1]), ([Part(1, 1, [1], 0)], [1]),
                              ([Part(4, 2, [0, 0, 0, 0, 0, 3], 1)], [4])):
            self.assertEqual(refusal_of(best_trip, Works(parts, 5, []), stands), (NoneHolds,))

    def test_a_lead_is_needed(self):
        works = Works([Part(4, 0, [1], 1)], 5, [])
        for stand in range(5):
            lead, trip = best_trip(works, [stand])
            self.assertIs(is_trip(works, [stand], lead, trip), True)
            self.assertEqual(Fraction(*mean_of(works, trip)), Fraction(6, 4))


class MeanTest(unittest.TestCase):
    def test_as_they_are(self):
        one = Works([PUMP], 5, [])
        trip = ((), (), (0,))
        for times in (1, 2, 50, 100):
            for rows in (trip * times, listed(trip * times), mixed(trip * times)):
                self.assertEqual(mean_of(one, rows), (12 * times, 3 * times))
        self.assertTrue(is_told(mean_of(one, trip)))
        self.assertEqual(mean_of(NO_PARTS, [[]] * 300), (0, 300))
        self.assertEqual(mean_of(BOTH, [[0, 1], [1]]), (14 + 7, 2))

    def test_of_any_works(self):
        # Nothing is refused: the works may be greater than trips are found for.
        works = Works([Part(9, 9, [0], 4)] * 4, 6, [3])
        self.assertEqual(mean_of(works, [(0, 1, 2, 3), (), (3,)]), (22 + 10, 3))


class WorthsTest(unittest.TestCase):
    def mean(self, works, stands):
        if refusal_of(best_trip, works, stands) == (NoneHolds,):
            return 0, 1
        return mean_of(works, best_trip(works, stands)[1])

    def test_places_and_mean(self):
        kept, lost = 0, 0
        for works, stands in ever_asks(200, 4):
            told = worths_of(works, stands)
            self.assertTrue(is_told(told))
            self.assertEqual([row[:2] for row in told], places_by_hand(works, stands))
            self.assertEqual({len(row) for row in told}, {3})
            price, rounds = self.mean(works, stands)
            for rows in (told, listed(told), mixed(told), told[::-1], [list(row) for row in told]):
                self.assertIs(is_worths(works, stands, price, rounds, rows), True)
            self.assertIs(is_worths_by_hand(works, stands, price, rounds, told), True)
            self.assertEqual(worths_of(works, list(stands)), told)
            if refusal_of(best_trip, works, stands) is None:
                kept += 1
                self.assertIs(is_worths(works, stands, price + 1, rounds, told), False)
            else:
                lost += 1
                self.assertIs(is_worths(works, stands, 0, 1, told), True)
        self.assertGreater(min(kept, lost), 20)

    def test_without_parts(self):
        self.assertEqual([row[:2] for row in worths_of(NO_PARTS, [])], [(0, ())])
        for worth in (0, 1, -1, GREAT, -GREAT):
            self.assertIs(is_worths(NO_PARTS, [], 0, 1, [[0, [], worth]]), True)
            self.assertIs(is_worths(NO_PARTS, (), 0, GREAT, (0, (), worth)), False)
            self.assertIs(is_worths(NO_PARTS, (), 0, GREAT, ((0, (), worth),)), True)
            self.assertIs(is_worths(NO_PARTS, [], 1, GREAT, [[0, [], worth]]), False)
        self.assertIs(is_worths(NO_PARTS, [], 0, 1, []), False)
        self.assertIs(is_worths(NO_PARTS, [], 0, 1, [[1, [], 0]]), False)
        self.assertIs(is_worths(NO_PARTS, [], 0, 1, [[0, [0], 0]]), False)

    def test_stands_that_come_and_cannot_go_on(self):
        # In phase 0 a stand of 0 falls if it is not changed, in phase 1 all fall.
        works = Works([Part(2, 0, [1, 3], 5)], 0, [])
        self.assertEqual([row[:2] for row in worths_of(works, [2])], [(0, (2,)), (1, (1,))])
        self.assertIs(is_worths(works, [2], 0, 1, [(0, (2,), 0), (1, (1,), 0)]), True)
        self.assertIs(is_worths(works, [2], 9, 1, [(0, (2,), 0), (1, (1,), 9)]), True)
        self.assertIs(is_worths(works, [2], 9, 1, [(0, (2,), 0), (1, (1,), 8)]), False)
        self.assertIs(is_worths(works, [2], 0, 1, [(0, (2,), 0)]), False)
        self.assertIs(is_worths(works, [0], 5, 1, [(0, (0,), -4), (1, (1,), -4)]), True)
        self.assertIs(is_worths(works, [0], 5, 1, [(0, (0,), -3), (1, (1,), -4)]), False)

    def test_bent_in_one_place(self):
        held, broken = 0, 0
        for works, stands in ever_asks(60, 2):
            price, rounds = self.mean(works, stands)
            for thing in bent(worths_of(works, stands)):
                answer = is_worths_by_hand(works, stands, price, rounds, thing)
                held += answer
                broken += not answer
                self.assertIs(is_worths(works, stands, price, rounds, thing), answer)
                self.assertIs(is_worths(works, stands, price, rounds, listed(thing)), answer)
        self.assertGreater(broken, 4000)
        self.assertGreater(held, 100)

    def test_a_triple_out_or_twice(self):
        for works, stands in ever_asks(60, 4):
            price, rounds = self.mean(works, stands)
            told = worths_of(works, stands)
            for k, (phase, row, worth) in enumerate(told):
                self.assertIs(is_worths(works, stands, price, rounds, told[:k] + told[k + 1:]), False)
                for more in (told[k], (phase, list(row), worth), (phase, row, worth + 1), (phase, row, worth - 1)):
                    self.assertIs(is_worths(works, stands, price, rounds, told + (more,)), False)
                    self.assertIs(is_worths(works, stands, price, rounds, (more,) + told), False)

    def test_worths_on_the_trip_are_tight(self):
        works = Works([PUMP], 5, [])
        told = worths_of(works, [3])
        self.assertEqual(self.mean(works, [3]), (12, 3))
        by_stand = {row[0]: worth for phase, row, worth in told}
        self.assertEqual(sorted(by_stand), [1, 2, 3])
        # 3 * 0 + worth of 2 is 12 and worth of 3, and so on round the trip.
        self.assertEqual(by_stand[2] - by_stand[3], 12)
        self.assertEqual(by_stand[1] - by_stand[2], 12)
        for stand, change in product(by_stand, (1, -1)):
            thing = [(0, (other,), worth + (change if other == stand else 0)) for other, worth in by_stand.items()]
            self.assertIs(is_worths(works, [3], 12, 3, thing), False)
        for change in (1, -1, GREAT, -GREAT):
            self.assertIs(is_worths(works, [3], 12, 3, [(0, (s,), w + change) for s, w in by_stand.items()]), True)

    def test_stands_that_cannot_come(self):
        works = Works([Part(4, 0, [2], 5)], 1, [])
        price, rounds = self.mean(works, [0])
        self.assertEqual(Fraction(price, rounds), 3)
        told = worths_of(works, [0])
        self.assertEqual([row[1] for row in told], [(0,), (2,)])
        low = -10 ** 6
        for order in (lambda rows: rows, lambda rows: rows[::-1]):
            self.assertIs(is_worths(works, [0], price, rounds, order(told + ((0, (4,), low),))), True)
            self.assertIs(is_worths(works, [0], price, rounds, order(told + ((0, (4,), -low),))), False)
            self.assertIs(is_worths(works, [0], price, rounds, order(told + ((0, (3,), low),))), False)
            self.assertIs(is_worths(works, [0], price, rounds, order(told + ((0, (1,), low),))), True)
            both = told + ((0, (3,), 2 * low), (0, (1,), low))
            self.assertIs(is_worths(works, [0], price, rounds, order(both)), True)
            both = told + ((0, (3,), low), (0, (1,), low))
            self.assertIs(is_worths(works, [0], price, rounds, order(both)), False)
        for other in ((0, (5,), low), (0, (-1,), low), (1, (4,), low), (-1, (4,), low), (0, (4, 4), low), (0, (), low)):
            self.assertIs(is_worths(works, [0], price, rounds, told + (other,)), False)

    def test_all_places_against_another_way(self):
        source = random.Random(20)
        answers = {True: 0, False: 0}
        for works, stands in ever_asks(120, 2):
            turn = turn_by_hand(works)
            rows = list(product(*[range(part.mark, part.full + 1) for part in works.parts]))
            for again in range(8):
                price, rounds = source.choice(((0, 1), (0, 3), (1, 4), (2, 1), self.mean(works, stands)))
                thing = [(phase, row, source.choice((0, 0, 0, -price, price, -5)))
                         for phase, row in product(range(turn), rows)]
                answer = is_worths_by_hand(works, stands, price, rounds, thing)
                answers[answer] += 1
                source.shuffle(thing)
                self.assertIs(is_worths(works, stands, price, rounds, thing), answer)
        self.assertGreater(min(answers.values()), 100)

    def test_numbers_much_greater(self):
        much = 10 ** 20
        for works, stands in ever_asks(60, 4):
            price, rounds = self.mean(works, stands)
            told = worths_of(works, stands)
            greater = tuple((phase, row, worth * much) for phase, row, worth in told)
            self.assertIs(is_worths(works, stands, price * much, rounds * much, greater), True)
            if refusal_of(best_trip, works, stands) is None:
                self.assertIs(is_worths(works, stands, price * much + 1, rounds * much, greater), False)

    def test_a_lesser_price_too(self):
        works = Works([Part(4, 0, [1], 5)], 3, [])
        self.assertEqual(Fraction(*self.mean(works, [4])), 2)
        flat = [(0, (k,), 0) for k in range(4)]
        self.assertIs(is_worths(works, [0], 0, 1, flat), True)
        self.assertIs(is_worths(works, [0], 0, 7, flat), True)
        self.assertIs(is_worths(works, [0], 1, 1, flat), False)
        rising = [(0, (k,), -2 * k) for k in range(4)]
        self.assertIs(is_worths(works, [0], 2, 1, rising), True)
        self.assertIs(is_worths(works, [0], 1, 1, rising), True)
        self.assertIs(is_worths(works, [0], 2, 2, rising), True)
        self.assertIs(is_worths(works, [0], 3, 1, rising), False)

    def test_truths_stand_for_no_numbers(self):
        works = Works([Part(1, 0, [0, 0], 1)], 0, [])
        good = [[0, [1], 0], [1, [1], 0]]
        self.assertIs(is_worths(works, [1], 0, 1, good), True)
        for thing in (
            [[False, [1], 0], [1, [1], 0]], [[0, [1], 0], [True, [1], 0]], [[0, [True], 0], [1, [1], 0]],
            [[0, [1], False], [1, [1], 0]], [[0, [1], 0], [1, [1], False]], [[0, [1], 0], [1, [True], 0]],
        ):
            self.assertIs(is_worths(works, [1], 0, 1, thing), False)

    def test_things_that_are_none(self):
        for thing in (
            *NOT_ROWS, *ODD_ROWS, [], (), [None], [[0, [4, 3]]], [[0, [4, 3], 0, 0]], [[0, [4, 3], None]],
            [[0, [4, 3], "0"]], [["0", [4, 3], 0]], [[None, [4, 3], 0]], [[0, "43", 0]], [[0, {0: 4, 1: 3}, 0]],
            [[0, None, 0]], [[0, [4], 0]], [[0, [[4], 3], 0]], [{0: 0, 1: [4, 3], 2: 0}], [[0, [4, 3], [0]]],
            {0: [0, [4, 3], 0]}, [[[0, [4, 3], 0]]], "abc", [[GREAT, [4, 3], 0]], [[0, [GREAT, 3], 0]],
        ):
            with self.subTest(thing=thing):
                self.assertIs(is_worths(BOTH, [4, 3], 0, 1, thing), False)
                self.assertIs(is_worths(NO_PARTS, [], 0, 1, thing), False)

    def test_no_price_and_no_rounds(self):
        told = worths_of(BOTH, [4, 3])
        wrong = (-1, -GREAT, *NOT_WHOLE)
        for thing in (told, [], None, True, {}, "x"):
            right = {"works": BOTH, "stands": [4, 3], "price": 0, "rounds": 1, "thing": thing}
            check_refusals(self, is_worths, right, (
                ("price", wrong, (NoRounds,)),
                ("rounds", (0, *wrong), (NoRounds,)),
            ))
        flat = [(phase, row, 0) for phase, row, worth in told]
        for price, rounds in ((0, 1), (0, GREAT), (1, 1), (1, GREAT), (GREAT, 1)):
            self.assertIs(is_worths(BOTH, [4, 3], price, rounds, flat), price == 0)


class RefusalsTest(unittest.TestCase):
    """[18]: what all functions that are handed stands refuse ahead of all else."""

    many = [PUMP, BELT, ROCK]
    great = Part(5, 0, [1], 1)
    long_turn = [Part(4, 0, [1] * 5, 1), Part(4, 0, [1, 0, 0], 1)]

    def asked(self, works, stands):
        """What each of the functions refuses with, each told once."""
        told = {refusal_of(best_trip, works, stands), refusal_of(worths_of, works, stands)}
        for thing in ([], None, True, [[]], {}, "x", [[0]] * 301):
            told.add(refusal_of(is_trip, works, stands, thing, thing))
            told.add(refusal_of(is_worths, works, stands, 0, 1, thing))
            told.add(refusal_of(is_worths, works, stands, None, 1, thing))
            told.add(refusal_of(is_worths, works, stands, 0, 0, thing))
        self.assertEqual(len(told), 1, told)
        return told.pop()

    def test_no_stands(self):
        wrong = (
            *NOT_ROWS, *ODD_ROWS, [], [4], [4, 3, 3], [0, 3], [5, 3], [4, 4], [4, -1], [4, True], [True, 3], [4, None],
            [4, "3"], [[4, 3]], [4, GREAT], [-GREAT, 3], {0: 4, 1: 3}, "43",
        )
        for works in (BOTH, Works([PUMP, BELT], 5, [3])):
            for stands in wrong:
                with self.subTest(stands=stands):
                    self.assertEqual(self.asked(works, stands), (NoStands,))
        for works in (Works(self.many, 5, [3]), Works([self.great] * 2, 5, [1]), Works(self.long_turn, 5, [1])):
            for stands in (None, [], [4, 9], [True, 3], "43", [0, 0, 0]):
                self.assertEqual(self.asked(works, stands), (NoStands,))
        for stands in (*NOT_ROWS, *ODD_ROWS, [0]):
            self.assertEqual(self.asked(NO_PARTS_SHUT, stands), (NoStands,))

    def test_too_many_parts(self):
        for more, shut in product(([], [ROCK]), ([], [7])):
            works = Works(self.many + more, 5, shut)
            self.assertEqual(self.asked(works, [4, 3, 4, 4][:len(works.parts)]), (TooGreat, 2))
        self.assertEqual(self.asked(Works([self.great] * 3, 5, [7]), [5] * 3), (TooGreat, 2))
        self.assertEqual(self.asked(Works(self.long_turn + [self.great], 5, [7]), [4, 4, 5]), (TooGreat, 2))

    def test_too_great_a_full(self):
        for full, shut in product(range(5, 10), ([], [0], [47])):
            part = Part(full, 0, [1] * 5, 1)
            other = Part(4, 0, [1] * 6, 1)
            self.assertEqual(self.asked(Works([part], 5, shut), [full]), (TooGreat, 4))
            self.assertEqual(self.asked(Works([part, other], 5, shut), [full, 4]), (TooGreat, 4))
            self.assertEqual(self.asked(Works([other, part], 5, shut), [4, full]), (TooGreat, 4))

    def test_too_great_a_period(self):
        for one, other, shut in product(range(1, 7), range(1, 7), ([], [0], [5, 9])):
            works = Works([Part(4, 0, [1] * one, 1), Part(4, 0, [0] * other, 1)], 5, shut)
            turn = lcm(one, other)
            if turn > 12:
                self.assertEqual(self.asked(works, [4, 4]), (TooGreat, 12))
            elif shut:
                self.assertEqual(self.asked(works, [4, 4]), (Shut, shut[0]))
            else:
                self.assertIsNone(refusal_of(worths_of, works, [4, 4]))

    def test_shut_rounds(self):
        for shut in ([0], [47], [3, 4], [1, 2, 47], list(range(48))):
            for parts, stands in (([], []), ([PUMP], [4]), ([PUMP, BELT], [4, 3]), ([HARD], [4])):
                self.assertEqual(self.asked(Works(parts, 5, shut), stands), (Shut, shut[0]))

    def test_ahead_of_none_holds(self):
        self.assertEqual(refusal_of(best_trip, Works([HARD], 5, []), [4]), (NoneHolds,))
        self.assertEqual(refusal_of(best_trip, Works([HARD], 5, []), [1]), (NoStands,))
        self.assertEqual(refusal_of(best_trip, Works([HARD], 5, [3]), [4]), (Shut, 3))

    def test_period_and_mean_refuse_nothing(self):
        works = Works([self.great, *self.long_turn], 5, [3])
        self.assertEqual(period(works), 15)
        self.assertEqual(mean_of(works, [[0, 1, 2]] * 15), (8 * 15, 15))


class GreatestTest(unittest.TestCase):
    def test_the_greatest_works_are_answered_soon(self):
        for wears in (((1, 0, 0, 0), (1, 0, 0)), ((0, 1, 0, 1, 0, 0), (0, 0, 0, 1)), ((0, 0, 0, 1), (0, 0, 0, 0, 0, 1))):
            works = Works([Part(4, 0, wear, price) for wear, price in zip(wears, (97, 89))], 53, [])
            begun = time.monotonic()
            lead, trip = best_trip(works, [4, 4])
            told = worths_of(works, [4, 4])
            self.assertGreater(len(told), 200)
            self.assertIs(is_trip(works, [4, 4], lead, trip), True)
            self.assertIs(is_worths(works, [4, 4], *mean_of(works, trip), told), True)
            self.assertLess(time.monotonic() - begun, 4)
            self.assertIs(is_trip_by_hand(works, [4, 4], lead, trip), True)
            self.assertIs(is_worths_by_hand(works, [4, 4], *mean_of(works, trip), told), True)
            self.assertTrue(holds_by_hand(works, [4, 4], lead + trip * 3, 0))


if __name__ == "__main__":
    unittest.main()
