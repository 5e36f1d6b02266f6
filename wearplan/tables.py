"""The least price and the best plan, exactly, by tables of what each stands are worth behind each round."""

from wearplan.errors import NoneHolds, TooGreat
from wearplan.parts import check_rounds
from wearplan.signs import is_row, is_whole
from wearplan.walks import check_stands, first_fallen, is_shut_to, stands_behind
from wearplan.works import cost_of

MOST_PARTS_HERE = 3
GREATEST_FULL_HERE = 6
MOST_ROUNDS_HERE = 8


def check_size(works, stands, first, rounds):
    """Refuse what is no beginning of so many rounds, and what is too great for a table."""
    check_stands(works, stands)
    check_rounds(first, rounds)
    if len(works.parts) > MOST_PARTS_HERE:
        raise TooGreat(MOST_PARTS_HERE)
    if any([part.full > GREATEST_FULL_HERE for part in works.parts]):
        raise TooGreat(GREATEST_FULL_HERE)
    if rounds > MOST_ROUNDS_HERE:
        raise TooGreat(MOST_ROUNDS_HERE)


def choices_in(works, round_number):
    """Tell all choices that may be done in that round, as tuples are ordered."""
    choices = [()]
    for k in range(len(works.parts)):
        choices = choices + [choice + (k,) for choice in choices]
    return sorted([choice for choice in choices if not is_shut_to(works, choice, round_number)])


def steps_from(works, stands, round_number):
    """Tell (choice, cost, stands behind it) for each choice that holds in that round, in the choices' order."""
    steps = []
    for choice in choices_in(works, round_number):
        behind = stands_behind(works, stands, choice, round_number)
        if first_fallen(works, behind) is None:
            steps.append((choice, cost_of(works, choice), behind))
    return steps


def layers_of(works, stands, first, rounds):
    """Tell a dict for each round, and one for behind all of them: the steps from all stands that can come there."""
    layers = []
    coming = [tuple(stands)]
    for round_number in range(first, first + rounds):
        layer = {before: steps_from(works, before, round_number) for before in coming}
        layers.append(layer)
        coming = sorted({behind for steps in layer.values() for choice, cost, behind in steps})
    layers.append({before: [] for before in coming})
    return layers


def worth_by(steps, worths):
    """Tell the least price by one of the steps and what the stands behind it are worth, or -1."""
    return min([cost + worths[behind] for choice, cost, behind in steps if worths[behind] >= 0], default=-1)


def worths_of_layers(layers):
    """Tell a dict for each layer: what its stands are worth."""
    worths = {last: 0 for last in layers[-1]}
    rows = [worths]
    for layer in reversed(layers[:-1]):
        worths = {before: worth_by(steps, worths) for before, steps in layer.items()}
        rows.append(worths)
    rows.reverse()
    return rows


def check_worth(worth):
    """Refuse the worth of stands from which no plan holds."""
    if worth < 0:
        raise NoneHolds()


def least(works, stands, first, rounds):
    """Tell the least price of a plan of so many rounds that holds."""
    price = worth_of(table_of(works, stands, first, rounds))
    check_worth(price)
    return price


def best_step(steps, worths, price):
    """Tell the choice, and the stands behind it, of the first of the steps by which the price is met."""
    met = [(choice, behind) for choice, cost, behind in steps
           if worths[behind] >= 0 and cost + worths[behind] == price]
    return met[0]


def best_plan(works, stands, first, rounds):
    """Tell the first plan, as tuples are ordered, of those of the least price that hold."""
    check_size(works, stands, first, rounds)
    layers = layers_of(works, stands, first, rounds)
    rows = worths_of_layers(layers)
    current = tuple(stands)
    check_worth(rows[0][current])
    plan = []
    for k in range(rounds):
        # All plans have the same length: the first choice that is as cheap is the first plan's, too.
        choice, current = best_step(layers[k][current], rows[k + 1], rows[k][current])
        plan.append(choice)
    return tuple(plan)


def table_of(works, stands, first, rounds):
    """Tell, for behind each round, all stands that can come there, each with its worth."""
    check_size(works, stands, first, rounds)
    rows = worths_of_layers(layers_of(works, stands, first, rounds))
    return tuple([tuple(sorted(worths.items())) for worths in rows])


def is_same(thing, told):
    """Tell whether thing is what is told, each tuple as any row."""
    if not isinstance(told, tuple):
        return is_whole(thing, told, told)
    if not is_row(thing) or len(thing) != len(told):
        return False
    return all([is_same(entry, other) for entry, other in zip(thing, told)])


def is_table(works, stands, first, rounds, thing):
    """Tell whether thing is the table that table_of tells."""
    return is_same(thing, table_of(works, stands, first, rounds))


def worth_of(table):
    """Tell what the stands at the beginning are worth."""
    return table[0][0][1]
