"""What several tests need: things of every kind, calls by name in every order, other ways to find what is told."""

import random
from itertools import combinations, permutations, product

from wearplan.errors import WearError
from wearplan.parts import Part
from wearplan.works import Works

GREAT = 10 ** 40
NOT_WHOLE = (
    None, True, False, "", "1", "abc", [], [1], (), (1,), {}, {1: 2}, {"a": [1]}, [[[[[1]]]]], ("1", None),
)
NOT_ROWS = (None, True, False, 0, 1, -1, 10 ** 40, "", "1", "123", {}, {0: 1}, {1: 1, 2: 2}, {"a": [1]})
# Rows that are neither numbers nor rows of numbers, up to five deep.
ODD_ROWS = (
    [None], (None,), [True], [False], (False, True), ["0"], ("",), [{}], ({0: 0},), [[]], [()], ((),), [[[]]], [[0]],
    ((0,),), [[[0]]], [[[[[0]]]]], [[[[[None]]]]], [{"a": [{"b": ()}]}], [[0], None], ["01", [0, 1]], [10 ** 40],
    [-10 ** 40], [0, None], [0, True], [0, "1"], [None, 1],
)


def by_names(function, **arguments):
    """Call the function with its arguments by name in every order, and give all answers."""
    return [function(**dict(order)) for order in permutations(list(arguments.items()))]


def refusal_of(function, *arguments, **named):
    """The class and the fields of the error with which the function refuses, or None."""
    try:
        function(*arguments, **named)
    except WearError as error:
        return type(error), *vars(error).values()
    return None


def check_refusals(test, function, right, wrong):
    """Hold a function to its refusals, each by itself and any two at once.

    right: arguments that are not refused; wrong: triples of an argument's name, things that are none, and the refusal,
    in the order told.
    """
    test.assertIsNone(refusal_of(function, **right))
    for name, things, refusal in wrong:
        for thing in things:
            with test.subTest(function=function.__name__, name=name, thing=thing):
                test.assertEqual(refusal_of(function, **{**right, name: thing}), refusal)
    for (name, things, refusal), (other, things_too, later) in combinations(wrong, 2):
        if name != other:
            for thing, thing_too in product(things, things_too):
                told = refusal_of(function, **{**right, other: thing_too, name: thing})
                test.assertEqual(told, refusal, (function.__name__, name, thing, other, thing_too))


def is_told(thing):
    """Tell whether thing is made of tuples, texts, whole numbers, True, False and None alone."""
    if type(thing) is tuple:
        return all(is_told(entry) for entry in thing)
    return thing is None or type(thing) in (str, int, bool)


def fields_of(thing):
    return dict(vars(thing))


def seen(thing):
    """All that can be seen of a thing, kinds too, so that any change of it shows."""
    if isinstance(thing, dict):
        return "dict", [(seen(key), seen(value)) for key, value in thing.items()]
    if isinstance(thing, (list, tuple)):
        return type(thing).__name__, [seen(entry) for entry in thing]
    if hasattr(thing, "__dict__"):
        return type(thing).__name__, seen(vars(thing))
    return type(thing).__name__, thing


def listed(thing):
    """The same thing with a list for each row."""
    return [listed(entry) for entry in thing] if isinstance(thing, (list, tuple)) else thing


def mixed(thing, depth=0):
    """The same thing with lists and tuples in one another."""
    if not isinstance(thing, (list, tuple)):
        return thing
    entries = [mixed(entry, depth + k + 1) for k, entry in enumerate(thing)]
    return entries if depth % 2 else tuple(entries)


def bent(thing):
    """All that thing becomes by bending it in one place: a number, or an entry of a row at any depth."""
    if not isinstance(thing, tuple):
        told = [thing + 1, thing - 1, -1, None, str(thing), [thing], {thing: thing}]
        told += [bool(thing)] if thing in (0, 1) else []
        return [other for other in told if type(other) is not int or other != thing]
    told = [None, True, False, 0, "", dict(enumerate(thing)), thing + (0,), thing + ((),), (thing,)]
    for k, entry in enumerate(thing):
        told += [thing[:k] + thing[k + 1:], thing[:k] + (entry,) + thing[k:]]
        told += [thing[:k] + (other,) + thing[k + 1:] for other in bent(entry)]
        if k + 1 < len(thing) and thing[k] != thing[k + 1]:
            told.append(thing[:k] + (thing[k + 1], entry) + thing[k + 2:])
    return told


def choices_by_hand(many):
    """All choices of so many parts, as Python orders tuples."""
    return sorted(choice for size in range(many + 1) for choice in combinations(range(many), size))


def plans_by_hand(many, rounds):
    """All plans of so many rounds for so many parts, as Python orders tuples."""
    return product(choices_by_hand(many), repeat=rounds)


def price_by_hand(works, plan):
    """What the plan costs, reckoned in another order: first all calls, then all parts."""
    calls = sum(1 for choice in plan if choice) * works.call
    return calls + sum(part.price for choice in plan for k, part in enumerate(works.parts) if k in choice)


def walk_by_hand(works, stands, plan, first):
    """What a walk tells, part by part: the pair "holds" and the path, or why it does not hold and where."""
    paths = []
    troubles = []
    for k, (part, stand) in enumerate(zip(works.parts, stands)):
        path = [stand]
        for at, choice in enumerate(plan, start=first):
            stand = (part.full if k in choice else stand) - part.wear[at % len(part.wear)]
            if stand < part.mark:
                troubles.append((at, 1, k, "falls"))
            path.append(stand)
        paths.append(path)
    troubles += [(at, 0, 0, "shut") for at, choice in enumerate(plan, start=first) if choice and at in works.shut]
    if troubles:
        at, rank, k, word = min(troubles)
        return (word, at, k) if word == "falls" else (word, at)
    return "holds", tuple(tuple(path[behind] for path in paths) for behind in range(len(plan) + 1))


def holds_by_hand(works, stands, plan, first):
    return walk_by_hand(works, stands, plan, first)[0] == "holds"


def small_works(source, many):
    """A works that is looked at whole, prices and calls of 0 among them; not a few cannot be kept."""
    parts = []
    for k in range(many):
        full = source.randint(1, 6)
        wear = [source.randint(0, source.choice((1, 2, full))) for k in range(source.randint(1, 6))]
        parts.append(Part(full, source.randint(0, min(2, full)), wear, source.choice((0, 0, 1, 2, 5))))
    shut = sorted(source.sample(range(48), source.choice((0, 0, 8, 20))))
    return Works(parts, source.choice((0, 0, 1, 3, 9)), shut)


def small_asks(times, rounds_by_parts):
    """Works, stands, first and rounds, so small that all plans can be gone through."""
    source = random.Random(times)
    for again in range(times):
        many = again % 4
        works = small_works(source, many)
        stands = tuple(source.randint(part.mark, part.full) for part in works.parts)
        yield works, stands, source.choice((0, 1, 30, 43, 47)), source.randint(0, rounds_by_parts[many])


def best_by_hand(works, stands, first, rounds):
    """The pair of the least price and the first plan that has it, of all plans, or None."""
    plans = plans_by_hand(len(works.parts), rounds)
    holding = [(price_by_hand(works, plan), plan) for plan in plans if holds_by_hand(works, stands, plan, first)]
    return min(holding, default=None)
