"""Parts that lose by chance, so much in so many of all cases, and in how many cases each stand comes."""

from wearplan.errors import NoPart, NoPlan, NoRounds
from wearplan.parts import check_stand
from wearplan.signs import is_rising_row, is_whole, is_whole_row

MOST_ROUNDS_HERE = 12


class Shared:
    """A part that in each round loses k in shares[k] of all cases."""

    def __init__(self, full, mark, shares):
        if not is_whole(full, 1, 6):
            raise NoPart(0)
        if not is_whole(mark, 0, full):
            raise NoPart(1)
        if not is_whole_row(shares, 1, 4, 0, 9) or sum(shares) == 0:
            raise NoPart(2)
        self.full = full
        self.mark = mark
        # The asker may change the row later; the part must not follow.
        self.shares = tuple(shares)


def total_of(part):
    """Tell of how many cases the part's shares are."""
    return sum(part.shares)


def cases_of(part, rounds):
    """Tell how many cases there are in so many rounds."""
    cases = 1
    for k in range(rounds):
        cases *= total_of(part)
    return cases


def weights_of(part, stand):
    """Tell the weights, from the mark to the full, of a stand that is known."""
    return tuple([1 if at == stand else 0 for at in range(part.mark, part.full + 1)])


def lose_once(part, weights):
    """Tell the weights behind one round's loss, and the weight of what has fallen in it."""
    behind = [0] * len(weights)
    fallen = 0
    # Places are counted from the mark: what is lost beyond place 0 has fallen.
    for at, weight in enumerate(weights):
        for lost, share in enumerate(part.shares):
            if lost > at:
                fallen += weight * share
            else:
                behind[at - lost] += weight * share
    return tuple(behind), fallen


def weights_behind(part, stand, rounds, changes):
    """Tell in how many cases each stand has come behind so many rounds, and, last, in how many it has fallen."""
    check_stand(part, stand)
    if not is_whole(rounds, 0, MOST_ROUNDS_HERE):
        raise NoRounds()
    if not is_rising_row(changes, 0, rounds - 1):
        raise NoPlan(-1)
    weights = weights_of(part, stand)
    fallen = 0
    for k in range(rounds):
        if k in changes:
            weights = (0,) * (len(weights) - 1) + (sum(weights),)
        weights, lost = lose_once(part, weights)
        fallen = fallen * total_of(part) + lost
    return weights + (fallen,)


def chance_of_fall(part, stand, rounds, changes):
    """Tell in how many cases it has fallen behind so many rounds, and how many cases there are."""
    weights = weights_behind(part, stand, rounds, changes)
    return weights[-1], cases_of(part, rounds)
