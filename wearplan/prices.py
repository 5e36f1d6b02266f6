"""The least that it costs to keep each part by itself, and from that a bound below which no plan's price lies."""

from wearplan.errors import NoneHolds, NoPaper, NoRounds
from wearplan.parts import MOST_ROUNDS, check_first, check_stand, loss
from wearplan.signs import is_row, is_whole, is_whole_row
from wearplan.walks import check_stands
from wearplan.works import is_shut

GREATEST_PRICE = 9999


def paid_behind(part, paid, lost, price):
    """Tell what each stand behind a round has cost at least, from what each stand before it has.

    Where price is None the part may not be changed in that round.
    """
    ways = list(paid.items())
    if price is not None:
        ways = ways + [(part.full, cost + price) for cost in paid.values()]
    behind = {}
    for stand, cost in ways:
        left = stand - lost
        if left >= part.mark and cost < behind.get(left, cost + 1):
            behind[left] = cost
    return behind


def single_least(part, stand, first, prices, shut):
    """Tell the least that it costs to keep one part, prices telling what a change costs in each round."""
    check_stand(part, stand)
    check_first(first)
    if not is_whole_row(prices, 0, MOST_ROUNDS, 0, GREATEST_PRICE) or not is_shut(shut):
        raise NoPaper()
    paid = {stand: 0}
    for round_number, price in enumerate(prices, start=first):
        paid = paid_behind(part, paid, loss(part, round_number), None if round_number in shut else price)
    if len(paid) == 0:
        raise NoneHolds()
    return min(paid.values())


def is_share_row(works, thing):
    """Tell whether thing is a row that parts one round's call, or less, among the parts."""
    many = len(works.parts)
    return is_whole_row(thing, many, many, 0, works.call) and sum(thing) <= works.call


def is_shares(works, thing):
    """Tell whether thing is a row of such rows, one for each of some rounds."""
    if not is_row(thing) or len(thing) > MOST_ROUNDS:
        return False
    return all([is_share_row(works, entry) for entry in thing])


def even_share_row(call, many):
    """Tell the call parted among so many parts as evenly as can be, the first ones having what is left over."""
    if many == 0:
        return ()
    each, over = divmod(call, many)
    return tuple([each + 1 if k < over else each for k in range(many)])


def even_shares(works, rounds):
    """Tell shares for so many rounds, the call parted evenly in each."""
    if not is_whole(rounds, 0, MOST_ROUNDS):
        raise NoRounds()
    return (even_share_row(works.call, len(works.parts)),) * rounds


def bound(works, stands, first, shares):
    """Tell what all parts cost at least, each kept by itself and paying its share of the calls."""
    check_stands(works, stands)
    check_first(first)
    if not is_shares(works, shares):
        raise NoPaper()
    together = 0
    for k, part in enumerate(works.parts):
        prices = [part.price + entry[k] for entry in shares]
        together += single_least(part, stands[k], first, prices, works.shut)
    return together
