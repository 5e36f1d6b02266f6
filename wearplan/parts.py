"""Parts that wear: what they lose in each round, and how long they stand."""

from wearplan.errors import NoPart, NoRounds, NoStands
from wearplan.signs import is_whole, is_whole_row

GREATEST_FIRST = 47
MOST_ROUNDS = 24


class Part:
    """A part that wears, with the price of changing it."""

    def __init__(self, full, mark, wear, price):
        if not is_whole(full, 1, 9):
            raise NoPart(0)
        if not is_whole(mark, 0, full):
            raise NoPart(1)
        if not is_whole_row(wear, 1, 6, 0, 9):
            raise NoPart(2)
        if not is_whole(price, 0, 99):
            raise NoPart(3)
        self.full = full
        self.mark = mark
        # The asker may change the row later; the part must not follow.
        self.wear = tuple(wear)
        self.price = price


def loss(part, round_number):
    """Tell what the part loses in that round."""
    return part.wear[round_number % len(part.wear)]


def is_stand(part, thing):
    """Tell whether thing is a stand of the part."""
    return is_whole(thing, part.mark, part.full)


def check_stand(part, stand):
    """Refuse what is no stand of the part."""
    if not is_stand(part, stand):
        raise NoStands()


def check_first(first):
    """Refuse what is no number of a first round."""
    if not is_whole(first, 0, GREATEST_FIRST):
        raise NoRounds()


def check_rounds(first, rounds):
    """Refuse what is no first round with a number of rounds."""
    check_first(first)
    if not is_whole(rounds, 0, MOST_ROUNDS):
        raise NoRounds()


def check_run(part, stand, first, rounds):
    """Refuse what is no stand of the part with rounds to come."""
    check_stand(part, stand)
    check_rounds(first, rounds)


def stands_until_fall(part, stand, first, rounds):
    """Tell the stands behind 0, 1, 2 .. rounds without a change, as far as the part does not fall."""
    stands = [stand]
    for round_number in range(first, first + rounds):
        stand -= loss(part, round_number)
        if stand < part.mark:
            break
        stands.append(stand)
    return stands


def worn(part, stand, first, rounds):
    """Tell the stand behind so many rounds without a change, or None if the part falls."""
    check_run(part, stand, first, rounds)
    stands = stands_until_fall(part, stand, first, rounds)
    return stands[rounds] if len(stands) > rounds else None


def lasts(part, stand, first, most):
    """Tell how many of the next most rounds the part stands without a change."""
    check_run(part, stand, first, most)
    return len(stands_until_fall(part, stand, first, most)) - 1
