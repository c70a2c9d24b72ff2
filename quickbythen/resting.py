"""Resting tables: how labels and lines grow for ever."""

from quickbythen.checks import told_rate, told_worths
from quickbythen.course import check_way
from quickbythen.cuts import told_flow
from quickbythen.exact import ONE, greater, is_less, minus, over, times
from quickbythen.kinds import is_pair
from quickbythen.rested import rested_table


def asked_by(road, goes):
    """The goes of a road, perhaps None, by its room, or 1 if that is more."""
    if goes is None:
        return ONE
    return greater(ONE, over(goes, (road[3], 1)))


def least_slopes(net, goes):
    """By places, the least over all rows of roads from the start of the greatest number that a road asks for."""
    found = {net.start(): ONE}
    changed = True
    while changed:
        changed = False
        for number, road in enumerate(net.roads()):
            if road[0] not in found:
                continue
            slope = greater(found[road[0]], asked_by(road, goes.get(number)))
            if road[1] not in found or is_less(slope, found[road[1]]):
                found[road[1]] = slope
                changed = True
    return {place: found[place] for place in sorted(found)}


def resting(net, rate):
    """A resting table for a rate."""
    wanted = told_rate(rate)
    check_way(net)
    return rested_table(net, wanted)


def is_resting(net, rate, thing):
    """Whether a thing is a resting table for a rate."""
    wanted = told_rate(rate)
    check_way(net)
    if not is_pair(thing):
        return False
    slopes = told_worths(thing[0])
    goes = told_flow(net, wanted, thing[1])
    if goes is None or slopes != least_slopes(net, goes):
        return False
    roads = net.roads()
    for number in goes:
        one, other, _, room = roads[number]
        if one not in slopes or slopes[other] != greater(slopes[one], over(goes[number], (room, 1))):
            return False
    return True


def levels(net, rate):
    """The pairs, by rising slopes, of the unlike slopes of resting tables and the places that have them."""
    slopes = resting(net, rate)[0]
    found = []
    for place in slopes:
        at = 0
        while at < len(found) and is_less(found[at][0], slopes[place]):
            at += 1
        if at == len(found) or found[at][0] != slopes[place]:
            found.insert(at, (slopes[place], []))
        found[at][1].append(place)
    return found


def growing(net, rate):
    """The dict from the roads whose lines grow for ever to what they grow by each beat."""
    slopes = resting(net, rate)[0]
    found = {}
    for number, (one, other, _, room) in enumerate(net.roads()):
        if one in slopes and is_less(slopes[one], slopes[other]):
            found[number] = times((room, 1), over(minus(slopes[other], slopes[one]), slopes[one]))
    return found
