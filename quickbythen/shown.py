"""Phases looked through, and the plans that they tell."""

from quickbythen.checks import told_comers, told_many
from quickbythen.course import course, end_of, grown, rate_from, stand_by
from quickbythen.errors import NoWay
from quickbythen.exact import ZERO, lesser, minus
from quickbythen.kinds import is_fraction, is_integer, is_list
from quickbythen.nets import shortest


def are_labels(labels, thing):
    """Whether a thing is a dict from the same places to the same moments as labels."""
    if not isinstance(thing, dict) or len(thing) != len(labels):
        return False
    for place, moment in thing.items():
        if not is_integer(place) or place not in labels or not is_fraction(moment):
            return False
        if moment[0] * labels[place][1] != labels[place][0] * moment[1]:
            return False
    return True


def slopes_in(net, steps, moment, labels, thing):
    """The slopes, told, of the phase that begins at a moment with these labels, None if a thing is not this phase."""
    if not is_list(thing) or len(thing) != 4 or not is_fraction(thing[0]):
        return None
    if thing[0][0] * moment[1] != moment[0] * thing[0][1] or not are_labels(labels, thing[1]):
        return None
    return stand_by(net, labels).slopes_in(rate_from(steps, moment), (thing[2], thing[3]))


def is_phases(net, comers, thing):
    """Whether a thing is the list of the first phases, up to any one of them."""
    steps = told_comers(comers)
    labels = shortest(net)
    if net.end() not in labels:
        raise NoWay()
    if not is_list(thing) or len(thing) == 0:
        return False
    moment = ZERO
    for phase in thing:
        slopes = None if moment is None else slopes_in(net, steps, moment, labels, phase)
        if slopes is None:
            return False
        end = end_of(net, steps, moment, labels, slopes)
        if end is not None:
            labels = grown(labels, slopes, minus(end, moment))
        moment = end
    return True


def ways_of(net, goes):
    """The dict from ways, tuples, to the rates at which they carry all goes together."""
    roads = net.roads()
    left = {number: goes[number] for number in goes}
    found = {}
    while left:
        way = []
        place = net.start()
        while place != net.end():
            way.append([number for number in left if roads[number][0] == place][0])
            place = roads[way[-1]][1]
        rate = left[way[0]]
        for number in way:
            rate = lesser(rate, left[number])
        found[tuple(way)] = rate
        for number in way:
            left[number] = minus(left[number], rate)
        left = {number: left[number] for number in left if left[number] != ZERO}
    return found


def plan_until(net, comers, many):
    """A plan by which nobody gains, and until when it tells who sets out, None if that is for ever."""
    steps = told_comers(comers)
    number = told_many(many)
    found = course(net, steps, number, None)
    carried = [(phase[0], ways_of(net, phase[3])) for phase in found]
    until = found[-1][4]
    if until is not None:
        carried.append((until, {}))
    used = sorted(set([way for _, rates in carried for way in rates]))
    plan = []
    for way in used:
        comes = [(moment, rates.get(way, ZERO)) for moment, rates in carried]
        plan.append((list(way), told_comers(comes)))
    return (plan, until)
