"""Flows that cost least: what goes for ever costs all together as little as can be."""

from quickbythen.checks import told_rate, told_worths
from quickbythen.costing import are_marks, cheapest_goes, cost_of, is_within, marks_of
from quickbythen.course import check_way
from quickbythen.cuts import least_cut, room_across, told_flow
from quickbythen.exact import is_less
from quickbythen.kinds import is_pair
from quickbythen.refusals import BadFlow, TooMuch


def told_rate_within(net, rate):
    """A rate that is at most the room of least_cut; BadRate, NoWay or TooMuch else."""
    wanted = told_rate(rate)
    check_way(net)
    if is_less((room_across(net, least_cut(net)), 1), wanted):
        raise TooMuch(rate)
    return wanted


def told_flow_within(net, rate, goes):
    """A flow of a told rate within rooms; BadFlow for what is none."""
    told = told_flow(net, rate, goes)
    if told is None or not is_within(net, told):
        raise BadFlow(goes)
    return told


def cheapest(net, rate):
    """A flow of a rate within rooms that costs least, and its marks."""
    wanted = told_rate_within(net, rate)
    goes = cheapest_goes(net, wanted)
    return (goes, marks_of(net, goes))


def is_cheapest(net, rate, thing):
    """Whether a thing is a pair of a flow of a rate within rooms and of marks of it."""
    wanted = told_rate_within(net, rate)
    if not is_pair(thing):
        return False
    goes = told_flow(net, wanted, thing[0])
    marks = told_worths(thing[1])
    if goes is None or marks is None or not is_within(net, goes):
        return False
    return are_marks(net, goes, marks)


def least_cost(net, rate):
    """The least cost of all flows of a rate within rooms."""
    wanted = told_rate_within(net, rate)
    return cost_of(net, cheapest_goes(net, wanted))


def marks_for(net, rate, goes):
    """Marks of a flow, None if there are none."""
    wanted = told_rate_within(net, rate)
    told = told_flow_within(net, wanted, goes)
    if cost_of(net, told) != cost_of(net, cheapest_goes(net, wanted)):
        return None
    return marks_of(net, told)


def cheaper(net, rate, goes):
    """A flow of the same rate within rooms that costs less, None if there is none."""
    wanted = told_rate_within(net, rate)
    told = told_flow_within(net, wanted, goes)
    found = cheapest_goes(net, wanted)
    if is_less(cost_of(net, found), cost_of(net, told)):
        return found
    return None
