"""Plans: which drops go which way, and what comes of it."""

from quickbythen.bends import worth_of
from quickbythen.checks import first_bad_comer, told_comers, told_moment
from quickbythen.curves import is_curve, plain
from quickbythen.errors import BadRoad
from quickbythen.exact import minus, total
from quickbythen.kinds import is_index, is_list, is_pair
from quickbythen.nets import is_way
from quickbythen.playing import Play
from quickbythen.refusals import BadPlan


def first_bad_group(net, thing):
    """The index of the first thing that keeps this from being a plan, None if it is one."""
    if not is_list(thing):
        return 0
    seen = []
    for index, group in enumerate(thing):
        if not is_pair(group) or not is_way(net, group[0]) or first_bad_comer(group[1]) is not None:
            return index
        if list(group[0]) in seen:
            return index
        seen.append(list(group[0]))
    return None


def is_plan(net, thing):
    """Whether a thing is a plan of a net."""
    return first_bad_group(net, thing) is None


def told_plan(net, plan):
    """A plan with told comers; BadPlan for what is none."""
    index = first_bad_group(net, plan)
    if index is not None:
        raise BadPlan(index)
    return [(list(way), told_comers(comers)) for way, comers in plan]


def played(net, plan, until):
    """The lists, by groups, of the curves of how many have come to each place of the way."""
    told = told_plan(net, plan)
    end = told_moment(until)
    play = Play(net, told, end)
    return [play.heaps_until(index, end) for index in range(len(told))]


def lines(net, plan, until):
    """The list, by roads, of the curves of the lines."""
    told = told_plan(net, plan)
    end = told_moment(until)
    return Play(net, told, end).lines_until(end)


def line_then(net, plan, road, moment):
    """The line of a road at a moment."""
    told = told_plan(net, plan)
    if not is_index(road, len(net.roads())):
        raise BadRoad(road)
    then = told_moment(moment)
    return worth_of(Play(net, told, then).line_curve(road), then)


def are_same_curves(thing, curves):
    """Whether a thing is a list of curves that mean the same as told ones."""
    if not is_list(thing) or len(thing) != len(curves):
        return False
    return all([is_curve(one) and plain(one) == other for one, other in zip(thing, curves)])


def is_played(net, plan, until, thing):
    """Whether a thing means the same as what played tells."""
    told = played(net, plan, until)
    if not is_list(thing) or len(thing) != len(told):
        return False
    return all([are_same_curves(one, other) for one, other in zip(thing, told)])


def tally(net, plan, moment):
    """How many have come to the start, wait in lines, are on roads and have come to the end."""
    told = told_plan(net, plan)
    then = told_moment(moment)
    play = Play(net, told, then)
    heaps = [[worth_of(curve, then) for curve in play.heaps(index)] for index in range(len(told))]
    come = total([heap[0] for heap in heaps])
    there = total([heap[-1] for heap in heaps])
    waiting = total([worth_of(curve, then) for curve in play.lines_until(then)])
    return (come, waiting, minus(minus(come, waiting), there), there)
