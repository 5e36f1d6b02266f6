"""One part alone: the fewest changes by which it never falls, and stretches that show that none are fewer."""

from wearplan.errors import NoneHolds, NoRounds
from wearplan.parts import MOST_ROUNDS, check_first, check_run, check_stand, loss, stands_until_fall
from wearplan.signs import is_row, is_whole, is_whole_row


def late_changes(part, stand, first, rounds):
    """Tell the rounds in which the part is changed if it is changed just where it would fall otherwise."""
    check_run(part, stand, first, rounds)
    changes = []
    for round_number in range(first, first + rounds):
        lost = loss(part, round_number)
        if stand - lost < part.mark:
            if part.full - lost < part.mark:
                raise NoneHolds()
            changes.append(round_number)
            stand = part.full
        stand -= lost
    return tuple(changes)


def needs_change(part, stand, first, a, b):
    """Tell whether the part falls up to round b if it is not changed in a to b."""
    start = first
    if a > first:
        # Nothing is better for the rounds from a on than a change right before them.
        start = a - 1
        stand = part.full
    rounds = b - start + 1
    return len(stands_until_fall(part, stand, start, rounds)) <= rounds


def needs(part, stand, first, a, b):
    """Tell whether the stretch from a to b needs a change."""
    check_stand(part, stand)
    check_first(first)
    # b ahead of a: it is a's bound, and must be a number for that.
    if not is_whole(b, first, first + MOST_ROUNDS - 1) or not is_whole(a, first, b):
        raise NoRounds()
    return needs_change(part, stand, first, a, b)


def is_stretch(thing, least, most):
    """Tell whether thing is a row (a, b) of round numbers from least to most, a not above b."""
    return is_whole_row(thing, 2, 2, least, most) and thing[0] <= thing[1]


def is_stretches(part, stand, first, rounds, thing):
    """Tell whether thing is a row of stretches that need a change, each behind the one before."""
    check_run(part, stand, first, rounds)
    if not is_row(thing):
        return False
    free = first
    for entry in thing:
        if not is_stretch(entry, free, first + rounds - 1):
            return False
        if not needs_change(part, stand, first, entry[0], entry[1]):
            return False
        free = entry[1] + 1
    return True


def stretches(part, stand, first, rounds):
    """Tell as many stretches that need a change as late_changes tells rounds."""
    told = []
    free = first
    # From behind one late change to the next: without a change there the part falls in the next one's round.
    for change in late_changes(part, stand, first, rounds):
        told.append((free, change))
        free = change + 1
    return tuple(told)
