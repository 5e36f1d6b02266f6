"""Works: parts together, the call, the rounds in which nothing may be changed, and what choices of parts cost."""

from wearplan.errors import NoPlan, NoWorks
from wearplan.parts import Part
from wearplan.signs import is_rising_row, is_row, is_whole

MOST_PARTS = 4
GREATEST_CALL = 99
GREATEST_SHUT = 47


class Works:
    """Parts that are kept together, with what each round with a change costs beside the parts' prices."""

    def __init__(self, parts, call, shut):
        if not is_parts(parts):
            raise NoWorks(0)
        if not is_whole(call, 0, GREATEST_CALL):
            raise NoWorks(1)
        if not is_shut(shut):
            raise NoWorks(2)
        # The asker may change the rows later; the works must not follow.
        self.parts = tuple(parts)
        self.call = call
        self.shut = tuple(shut)


def is_parts(thing):
    """Tell whether thing is a row of parts that a works may have."""
    if not is_row(thing) or len(thing) > MOST_PARTS:
        return False
    return all([isinstance(entry, Part) for entry in thing])


def is_shut(thing):
    """Tell whether thing is a row of rounds that a works may have shut."""
    return is_rising_row(thing, 0, GREATEST_SHUT)


def is_choice_among(thing, many):
    """Tell whether thing is a row of numbers of so many parts, each greater than the one before."""
    return is_rising_row(thing, 0, many - 1)


def is_choice(works, thing):
    """Tell whether thing is a row of numbers of the works' parts, each greater than the one before."""
    return is_choice_among(thing, len(works.parts))


def cost_of(works, choice):
    """Tell what it costs to change the parts chosen in one round."""
    if not is_choice(works, choice):
        raise NoPlan(0)
    if len(choice) == 0:
        return 0
    return works.call + sum([works.parts[k].price for k in choice])
