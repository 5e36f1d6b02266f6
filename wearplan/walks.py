"""Plans of changes: what they cost, and what comes of the parts' stands by them, round by round."""

from wearplan.errors import Falls, NoPlan, NoStands, Shut
from wearplan.parts import MOST_ROUNDS, check_first, is_stand, loss
from wearplan.signs import is_row
from wearplan.works import cost_of, is_choice_among


def wrong_entry(thing, many, most):
    """Tell where thing is no plan of at most most rounds for so many parts, or None.

    That is -1 where the whole is none, else the number of the first entry that is no choice.
    """
    if not is_row(thing) or len(thing) > most:
        return -1
    for k, entry in enumerate(thing):
        if not is_choice_among(entry, many):
            return k
    return None


def is_plan(works, thing):
    """Tell whether thing is a plan, whether it holds or not."""
    return wrong_entry(thing, len(works.parts), MOST_ROUNDS) is None


def check_plan(plan, many):
    """Refuse what is no plan for so many parts."""
    at = wrong_entry(plan, many, MOST_ROUNDS)
    if at is not None:
        raise NoPlan(at)


def price_of(works, plan):
    """Tell what the plan's choices cost together."""
    check_plan(plan, len(works.parts))
    return costs_together(works, plan)


def costs_together(works, plan):
    """Tell what the choices of a plan of any length cost together."""
    return sum([cost_of(works, choice) for choice in plan])


def is_stands(works, thing):
    """Tell whether thing is a row with a stand of each part."""
    if not is_row(thing) or len(thing) != len(works.parts):
        return False
    return all([is_stand(part, stand) for part, stand in zip(works.parts, thing)])


def check_stands(works, stands):
    """Refuse what are no stands of the works."""
    if not is_stands(works, stands):
        raise NoStands()


def is_shut_to(works, choice, round_number):
    """Tell whether the choice may not be done because the round is shut."""
    return len(choice) > 0 and round_number in works.shut


def stands_behind(works, stands, choice, round_number):
    """Tell the stands behind that round; a part that falls in it has one below its mark."""
    behind = []
    for k, part in enumerate(works.parts):
        stand = part.full if k in choice else stands[k]
        behind.append(stand - loss(part, round_number))
    return tuple(behind)


def first_fallen(works, behind):
    """Tell the least number of a part that has come below its mark, or None if none has."""
    for k, part in enumerate(works.parts):
        if behind[k] < part.mark:
            return k
    return None


def do_round(works, stands, choice, round_number):
    """Tell the stands behind that round, or refuse it."""
    if is_shut_to(works, choice, round_number):
        raise Shut(round_number)
    behind = stands_behind(works, stands, choice, round_number)
    fallen = first_fallen(works, behind)
    if fallen is not None:
        raise Falls(round_number, fallen)
    return behind


def path_of(works, stands, plan, first):
    """Tell the stands at the beginning and behind each round of a plan of any length, or refuse its first bad round."""
    path = [tuple(stands)]
    for k, choice in enumerate(plan):
        path.append(do_round(works, path[k], choice, first + k))
    return tuple(path)


def walk(works, stands, plan, first):
    """Tell the stands at the beginning and behind each round of the plan, the first of them numbered first."""
    check_stands(works, stands)
    check_first(first)
    check_plan(plan, len(works.parts))
    return path_of(works, stands, plan, first)
