"""When looking is worth its price: the least that a part that loses by chance costs, by what one knows of it.

All costs here are whole numbers: the average times all weights together and all cases of the rounds. Known waits are a
row with an entry for one round, for two, and so on: for each stand what these rounds cost at least if it is known and
one waits in the first of them. Where known waits are handed in, their length tells how many rounds are spoken of.
"""

from wearplan.errors import NoRounds, NoStands, NoWorks
from wearplan.parts import check_stand
from wearplan.shares import cases_of, lose_once, weights_of
from wearplan.signs import is_whole, is_whole_row

GREATEST_PRICE = 99
GREATEST_WEIGHT = 1000000
MOST_ROUNDS_HERE = 4
MOVES = ("wait", "look", "change")


class LookPrices:
    """What a look, a change and a fall cost."""

    def __init__(self, look, change, fall):
        for at, price in enumerate((look, change, fall)):
            if not is_whole(price, 0, GREATEST_PRICE):
                raise NoWorks(at)
        self.look = look
        self.change = change
        self.fall = fall


def wait_cost(part, weights, prices, known):
    """Tell what one round in which one waits, and the rounds behind it of which known tells, cost at least."""
    behind, fallen = lose_once(part, weights)
    fall = prices.fall * cases_of(part, len(known))
    # What has fallen is full at the next round's beginning, and one knows that.
    fall += least_cost(part, weights_of(part, part.full), prices, known)
    return fallen * fall + least_cost(part, behind, prices, known)


def move_costs(part, weights, prices, known):
    """Tell what the rounds cost at least if one waits, looks, or changes at first, in this order."""
    waits = known[-1]
    cases = cases_of(part, len(known))
    changed = prices.change * cases + waits[-1]
    looked = sum([weight * min(waits[at], changed) for at, weight in enumerate(weights)])
    together = sum(weights)
    return (
        wait_cost(part, weights, prices, known[:-1]),
        together * prices.look * cases + looked,
        together * changed,
    )


def least_cost(part, weights, prices, known):
    """Tell what the rounds cost at least."""
    if len(known) == 0:
        return 0
    return min(move_costs(part, weights, prices, known))


def known_waits(part, prices, rounds):
    """Tell the known waits of one round up to so many rounds."""
    rows = [weights_of(part, stand) for stand in range(part.mark, part.full + 1)]
    known = []
    for k in range(rounds):
        known.append([wait_cost(part, weights, prices, known) for weights in rows])
    return known


def check_weights(part, weights):
    """Refuse what is no row of weights, one for each stand, not all 0."""
    many = part.full - part.mark + 1
    if not is_whole_row(weights, many, many, 0, GREATEST_WEIGHT) or sum(weights) == 0:
        raise NoStands()


def check_looks(rounds, fewest):
    """Refuse what is no number of rounds from the fewest on."""
    if not is_whole(rounds, fewest, MOST_ROUNDS_HERE):
        raise NoRounds()


def risk_of(part, weights, prices, rounds):
    """Tell the least that so many rounds cost, times all weights together and all cases."""
    check_weights(part, weights)
    check_looks(rounds, 0)
    return least_cost(part, weights, prices, known_waits(part, prices, rounds))


def best_move(part, weights, prices, rounds):
    """Tell the first of the moves with which the rounds may begin so that no other is cheaper."""
    check_weights(part, weights)
    check_looks(rounds, 1)
    costs = move_costs(part, weights, prices, known_waits(part, prices, rounds))
    return MOVES[costs.index(min(costs))]


def least_risk(part, stand, prices, rounds):
    """Tell the least that so many rounds cost from a known stand on, times all cases."""
    check_stand(part, stand)
    return risk_of(part, weights_of(part, stand), prices, rounds)
