"""Works kept for ever: round trips of the least price a round, and worths that show that none is cheaper.

A place is a pair of a phase and the stands at the beginning of a round in it.
"""

from wearplan.errors import Falls, NoneHolds, NoRounds, Shut, TooGreat
from wearplan.signs import is_number, is_row, is_whole
from wearplan.tables import steps_from
from wearplan.walks import check_stands, costs_together, is_stands, path_of, wrong_entry

MOST_PARTS_HERE = 2
GREATEST_FULL_HERE = 4
GREATEST_PERIOD_HERE = 12
MOST_ROUNDS_HERE = 300


def period(works):
    """Tell the least number of rounds behind which all parts wear as before."""
    turn = 1
    while any([turn % len(part.wear) > 0 for part in works.parts]):
        turn += 1
    return turn


def check_ever(works, stands):
    """Refuse what are no stands, what is too great here, and works with a round that is shut."""
    check_stands(works, stands)
    if len(works.parts) > MOST_PARTS_HERE:
        raise TooGreat(MOST_PARTS_HERE)
    if any([part.full > GREATEST_FULL_HERE for part in works.parts]):
        raise TooGreat(GREATEST_FULL_HERE)
    if period(works) > GREATEST_PERIOD_HERE:
        raise TooGreat(GREATEST_PERIOD_HERE)
    if len(works.shut) > 0:
        raise Shut(works.shut[0])


def is_plan_here(works, thing):
    """Tell whether thing is a plan of as many rounds as plans have here."""
    return wrong_entry(thing, len(works.parts), MOST_ROUNDS_HERE) is None


def is_trip(works, stands, lead, trip):
    """Tell whether lead is a plan that holds from these stands on, and trip a round trip behind it."""
    check_ever(works, stands)
    if not is_plan_here(works, lead) or not is_plan_here(works, trip):
        return False
    if len(trip) == 0 or len(trip) % period(works) > 0:
        return False
    try:
        begun = path_of(works, stands, lead, 0)[-1]
        return path_of(works, begun, trip, len(lead))[-1] == begun
    except Falls:
        return False


def steps_of(works, place, turn):
    """Tell (choice, cost, place behind it) for each choice by which no part falls from that place."""
    phase, stands = place
    after = (phase + 1) % turn
    return [(choice, cost, (after, behind)) for choice, cost, behind in steps_from(works, stands, phase)]


def places_of(works, stands):
    """Tell a dict of all places that can come from these stands at round 0 on: the steps from each."""
    turn = period(works)
    places = {}
    coming = [(0, tuple(stands))]
    while len(coming) > 0:
        place = coming.pop()
        if place not in places:
            places[place] = steps_of(works, place, turn)
            coming.extend([behind for choice, cost, behind in places[place]])
    return places


def layer_behind(places, layer):
    """Tell for each place to which a step leads out of the layer (least price, place before, choice)."""
    told = {}
    for before, (paid, earlier, done) in layer.items():
        for choice, cost, place in places[before]:
            if place not in told or paid + cost < told[place][0]:
                told[place] = (paid + cost, before, choice)
    return told


def layers_from(places, start):
    """Tell a layer for behind each of as many rounds as there are places, and the one at the beginning."""
    layers = [{start: (0, start, ())}]
    for k in range(len(places)):
        layers.append(layer_behind(places, layers[k]))
    return layers


def is_cheaper(mean, other):
    """Tell whether the first pair of a price and a number of rounds is less a round than the other."""
    return mean[0] * other[1] < other[0] * mean[1]


def greatest_mean(layers, place):
    """Tell the greatest mean by which the last layer's price of the place is above one of an earlier layer."""
    most = None
    for k, layer in enumerate(layers[:-1]):
        if place in layer:
            mean = (layers[-1][place][0] - layer[place][0], len(layers) - 1 - k)
            if most is None or is_cheaper(most, mean):
                most = mean
    return most


def best_end(layers):
    """Tell the last layer's place whose greatest mean is the least.

    That is the least mean of all round trips (Karp), and any one on the cheapest way to that place has it: without
    it the way would else be cheaper than any.
    """
    best = None
    least_mean = None
    for place in layers[-1]:
        mean = greatest_mean(layers, place)
        if best is None or is_cheaper(mean, least_mean):
            best = place
            least_mean = mean
    return best


def way_to(layers, place):
    """Tell the places and the choices of the cheapest way to that place of the last layer."""
    places = [place]
    choices = []
    for layer in reversed(layers[1:]):
        paid, place, choice = layer[place]
        places.append(place)
        choices.append(choice)
    places.reverse()
    choices.reverse()
    return places, choices


def first_ring(places):
    """Tell where a place stands first that comes again, and where it does so."""
    seen = {}
    for k, place in enumerate(places):
        if place in seen:
            return seen[place], k
        seen[place] = k
    return None


def best_trip(works, stands):
    """Tell a lead and a round trip behind it, so that none costs less a round."""
    check_ever(works, stands)
    layers = layers_from(places_of(works, stands), (0, tuple(stands)))
    if len(layers[-1]) == 0:
        raise NoneHolds()
    places, choices = way_to(layers, best_end(layers))
    # There is a ring: the way has one place more than there are places.
    begun, ended = first_ring(places)
    return tuple(choices[:begun]), tuple(choices[begun:ended])


def mean_of(works, trip):
    """Tell the trip's price and how many rounds it has."""
    return costs_together(works, trip), len(trip)


def best_mean(works, stands):
    """Tell the mean of the best trip, or where there is none that of nothing paid in one round."""
    try:
        return mean_of(works, best_trip(works, stands)[1])
    except NoneHolds:
        return 0, 1


def lowered(places, worths, price, rounds):
    """Tell each place's worth, or what a step from it makes of the worth behind, if that is less."""
    told = {}
    for place, steps in places.items():
        told[place] = min([worths[place]] + [rounds * cost - price + worths[behind] for choice, cost, behind in steps])
    return told


def worths_of(works, stands):
    """Tell a row of triples (phase, stands, worth), one for each place that can come."""
    check_ever(works, stands)
    price, rounds = best_mean(works, stands)
    places = places_of(works, stands)
    # A worth is what the cheapest way from there costs above the mean: no ring is below it, so this comes to an end.
    worths = {place: 0 for place in places}
    again = lowered(places, worths, price, rounds)
    while again != worths:
        worths = again
        again = lowered(places, worths, price, rounds)
    return tuple([place + (worths[place],) for place in sorted(worths)])


def is_triple(works, thing, turn):
    """Tell whether thing is a row of a phase, stands of the works, and a worth."""
    if not is_row(thing) or len(thing) != 3:
        return False
    return is_whole(thing[0], 0, turn - 1) and is_stands(works, thing[1]) and is_number(thing[2])


def is_kept(works, place, worths, price, rounds):
    """Tell whether each step from that place leads to one with a worth, and pays for what is between the worths."""
    for choice, cost, behind in steps_of(works, place, period(works)):
        if behind not in worths or rounds * cost + worths[behind] < price + worths[place]:
            return False
    return True


def is_worths(works, stands, price, rounds, thing):
    """Tell whether thing is a row of triples by which no round trip costs less a round than price by rounds."""
    check_ever(works, stands)
    if not is_number(price) or price < 0 or not is_number(rounds) or rounds < 1:
        raise NoRounds()
    turn = period(works)
    if not is_row(thing) or not all([is_triple(works, entry, turn) for entry in thing]):
        return False
    worths = {(entry[0], tuple(entry[1])): entry[2] for entry in thing}
    if len(worths) < len(thing) or (0, tuple(stands)) not in worths:
        return False
    return all([is_kept(works, place, worths, price, rounds) for place in worths])
