"""Plans of changes: what they cost, and what comes of the parts' stands by them, round by round."""

from wearplan.errors import Falls, NoPlan, NoStands, Shut
from wearplan.parts import MOST_ROUNDS, check_first, is_stand, loss
from wearplan.signs import is_row
from wearplan.works import cost_of, is_choice


def wrong_entry(works, thing):
    """Tell where thing is no plan: -1 of the whole, else its first entry that is no choice; None of a plan."""
    if not is_row(thing) or len(thing) > MOST_ROUNDS:
        return -1
    for k, entry in enumerate(thing):
        if not is_choice(works, entry):
            return k
    return None


def is_plan(works, thing):
    """Tell whether thing is a plan, whether it holds or not."""
    return wrong_entry(works, thing) is None


def check_plan(works, plan):
    """Refuse what is no plan."""
    at = wrong_entry(works, plan)
    if at is not None:
        raise NoPlan(at)


def price_of(works, plan):
    """Tell what the plan's choices cost together."""
    check_plan(works, plan)
    return sum([cost_of(works, choice) for choice in plan])


def is_stands(works, thing):
    """Tell whether thing is a row with a stand of each part."""
    if not is_row(thing) or len(thing) != len(works.parts):
        return False
    return all([is_stand(part, stand) for part, stand in zip(works.parts, thing)])


def check_stands(works, stands):
    """Refuse what are no stands of the works."""
    if not is_stands(works, stands):
        raise NoStands()


def is_shut_to(works, choice, round_number):
    """Tell whether the choice may not be done because the round is shut."""
    return len(choice) > 0 and round_number in works.shut


def stands_behind(works, stands, choice, round_number):
    """Tell the stands behind that round; a part that falls in it has one below its mark."""
    behind = []
    for k, part in enumerate(works.parts):
        stand = part.full if k in choice else stands[k]
        behind.append(stand - loss(part, round_number))
    return tuple(behind)


def first_fallen(works, behind):
    """Tell the least number of a part that has come below its mark, or None if none has."""
    for k, part in enumerate(works.parts):
        if behind[k] < part.mark:
            return k
    return None


def do_round(works, stands, choice, round_number):
    """Tell the stands behind that round, or refuse it."""
    if is_shut_to(works, choice, round_number):
        raise Shut(round_number)
    behind = stands_behind(works, stands, choice, round_number)
    fallen = first_fallen(works, behind)
    if fallen is not None:
        raise Falls(round_number, fallen)
    return behind


def walk(works, stands, plan, first):
    """Tell the stands at the beginning and behind each round of the plan, the first of them numbered first."""
    check_stands(works, stands)
    check_first(first)
    check_plan(works, plan)
    path = [tuple(stands)]
    for k, choice in enumerate(plan):
        path.append(do_round(works, path[k], choice, first + k))
    return tuple(path)
