"""Plans led on from some round, and works with something changed."""

from wearplan.errors import NoPart, NoRounds, NotTold, NoWorks, TooGreat
from wearplan.parts import Part
from wearplan.signs import is_whole
from wearplan.walks import walk
from wearplan.works import GREATEST_SHUT, MOST_PARTS, Works


def led(works, stands, plan, done, first):
    """Tell the stands behind the first done rounds, the next round's number, and the plan's other rounds."""
    path = walk(works, stands, plan, first)
    if not is_whole(done, 0, len(plan)):
        raise NoRounds()
    return path[done], first + done, tuple([tuple(choice) for choice in plan[done:]])


def with_part(works, part):
    """Tell the works with that part behind its others."""
    if not isinstance(part, Part):
        raise NoPart(0)
    if len(works.parts) >= MOST_PARTS:
        raise TooGreat(MOST_PARTS)
    return Works(works.parts + (part,), works.call, works.shut)


def part_told(works, k):
    """Tell part k of the works, or refuse where there is none."""
    if not is_whole(k, 0, len(works.parts) - 1):
        raise NotTold()
    return works.parts[k]


def with_other(works, k, part):
    """Tell the works with that part in the place of part k."""
    return Works(works.parts[:k] + (part,) + works.parts[k + 1:], works.call, works.shut)


def with_mark(works, k, mark):
    """Tell the works with another mark of part k."""
    part = part_told(works, k)
    return with_other(works, k, Part(part.full, mark, part.wear, part.price))


def with_price(works, k, price):
    """Tell the works with another price of part k."""
    part = part_told(works, k)
    return with_other(works, k, Part(part.full, part.mark, part.wear, price))


def with_call(works, call):
    """Tell the works with another call."""
    return Works(works.parts, call, works.shut)


def with_shut(works, round_number):
    """Tell the works with one round more that is shut."""
    if not is_whole(round_number, 0, GREATEST_SHUT):
        raise NoWorks(2)
    if round_number in works.shut:
        raise NotTold()
    return Works(works.parts, works.call, sorted(works.shut + (round_number,)))
