"""Plans with an order of roads: all is told of them for ever."""

from quickbythen.bends import moments_of, worth_of
from quickbythen.exact import ZERO, greater
from quickbythen.plans import told_plan
from quickbythen.playing import Play
from quickbythen.refusals import NoOrder
from quickbythen.sequence import order_in, ring_in


def road_order(net, plan):
    """The roads of the ways in an order in which each way goes them, None if there is none."""
    return order_in([group[0] for group in told_plan(net, plan)])


def road_ring(net, plan):
    """Roads that follow one another round a ring in the ways, None if there are none."""
    return ring_in([group[0] for group in told_plan(net, plan)])


def play_for_ever(net, plan):
    """An ordered plan, played out; NoOrder for others."""
    told = told_plan(net, plan)
    ring = ring_in([group[0] for group in told])
    if ring is not None:
        raise NoOrder(ring)
    return Play(net, told, ZERO)


def played_out(net, plan):
    """The lists, by groups, of the curves of how many ever come to each place of the way."""
    play = play_for_ever(net, plan)
    return [play.heaps(index) for index in range(len(play.plan))]


def last_bend(heaps):
    """The last moment at which a curve in lists of curves bends."""
    found = ZERO
    for curves in heaps:
        for curve in curves:
            found = greater(found, moments_of(curve)[-1])
    return found


def still_from(net, plan):
    """The least moment behind which no curve bends."""
    return last_bend(played_out(net, plan))


def at_last(net, plan):
    """The list, by groups, of the rates at which drops come to the end at last."""
    return [curves[-1][1] for curves in played_out(net, plan)]


def left_lines(net, plan):
    """The dict from the roads that have a line at last to the line and what it grows by."""
    play = play_for_ever(net, plan)
    still = last_bend([play.heaps(index) for index in range(len(play.plan))])
    found = {}
    for number in range(len(net.roads())):
        curve = play.line_curve(number)
        if worth_of(curve, still) != ZERO or curve[1] != ZERO:
            found[number] = (worth_of(curve, still), curve[1])
    return found
