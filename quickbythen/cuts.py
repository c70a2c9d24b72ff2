"""Cuts between the start and the end of a net, and flows across them."""

from quickbythen.checks import told_goes, told_rate
from quickbythen.exact import ZERO, minus, negative, plus
from quickbythen.kinds import is_index, is_list
from quickbythen.pushing import Pushing
from quickbythen.refusals import BadCut


def is_cut(net, thing):
    """Whether a thing is an ascending list of unlike places, the start among them, the end not."""
    if not is_list(thing):
        return False
    for index, place in enumerate(thing):
        if not is_index(place, net.places()) or (index > 0 and place <= thing[index - 1]):
            return False
    return net.start() in thing and net.end() not in thing


def room_across(net, cut):
    """The rooms together of all roads that lead from the places of a told cut to others."""
    return sum([room for one, other, _, room in net.roads() if one in cut and other not in cut])


def room_of(net, cut):
    """The rooms together of all roads that lead from the places of a cut to others."""
    if not is_cut(net, cut):
        raise BadCut(cut)
    return room_across(net, cut)


def pushing_in(net):
    """The roads of a net as arcs on which their rooms can go, and nothing does yet."""
    return Pushing([(one, other, (room, 1)) for one, other, _, room in net.roads()])


def least_cut(net):
    """Of the cuts with the least room that with the fewest places."""
    pushing = pushing_in(net)
    pushing.push(net.start(), net.end(), None)
    return sorted(pushing.trails_from(net.start()))


def brought_to(net, goes):
    """The list, by places, of how much more comes than leaves by told goes."""
    found = [ZERO for _ in range(net.places())]
    roads = net.roads()
    for number in goes:
        one, other = roads[number][:2]
        found[one] = minus(found[one], goes[number])
        found[other] = plus(found[other], goes[number])
    return found


def told_flow(net, rate, thing):
    """The goes, told, of a flow of a told rate that a thing is, None if it is none."""
    goes = told_goes(thing, len(net.roads()))
    if goes is None:
        return None
    wanted = [ZERO for _ in range(net.places())]
    wanted[net.start()] = negative(rate)
    wanted[net.end()] = rate
    if brought_to(net, goes) != wanted:
        return None
    return goes


def is_flow(net, rate, thing):
    """Whether a thing is a flow of a rate."""
    wanted = told_rate(rate)
    return told_flow(net, wanted, thing) is not None


def some_goes(goes):
    """The dict of those goes in a list that are above 0."""
    return {number: much for number, much in enumerate(goes) if much != ZERO}


def flow_within(net, rate):
    """A flow of a rate none of whose goes is above the road's room, None if there is none."""
    wanted = told_rate(rate)
    pushing = pushing_in(net)
    if pushing.push(net.start(), net.end(), wanted) != wanted:
        return None
    return some_goes(pushing.goes)
