"""What several tests need: things of every kind, calls by name in every order, what may be told."""

from itertools import permutations

NOT_WHOLE = (
    None, True, False, "", "1", "abc", [], [1], (), (1,), {}, {1: 2}, {"a": [1]}, [[[[[1]]]]], ("1", None),
)
NOT_ROWS = (None, True, False, 0, 1, -1, 10 ** 40, "", "1", "123", {}, {0: 1}, {1: 1, 2: 2}, {"a": [1]})


def by_names(function, **arguments):
    """Call the function with its arguments by name in every order, and give all answers."""
    return [function(**dict(order)) for order in permutations(list(arguments.items()))]


def is_told(thing):
    """Tell whether thing is made of tuples, texts, whole numbers, True, False and None alone."""
    if type(thing) is tuple:
        return all(is_told(entry) for entry in thing)
    return thing is None or type(thing) in (str, int, bool)


def fields_of(thing):
    return dict(vars(thing))
