"""Who would be earlier at the end by another way than by its group's."""

from quickbythen.bends import gap_between, moments_of, slope_of, worth_of
from quickbythen.checks import told_moment
from quickbythen.exact import ZERO, is_less, minus
from quickbythen.kinds import is_index
from quickbythen.plans import told_plan
from quickbythen.refusals import BadGroup
from quickbythen.riding import Ride


def is_above_behind(curve, moment):
    """Whether a curve that is nowhere below 0 is above it right behind a moment."""
    return worth_of(curve, moment) != ZERO or slope_of(curve, moment) != ZERO


def first_loss(comers, loss):
    """The first moment right behind which drops come and lose, None if there is none."""
    for index, (begin, rate) in enumerate(comers):
        if rate == ZERO:
            continue
        bends = [moment for moment in moments_of(loss) if is_less(begin, moment)]
        if index + 1 < len(comers):
            bends = [moment for moment in bends if is_less(moment, comers[index + 1][0])]
        for moment in [begin] + bends:
            if is_above_behind(loss, moment):
                return moment
    return None


def first_gain(net, plan, until):
    """The first moment behind which drops gain, the first group of these, and a way by which they do; None if none."""
    told = told_plan(net, plan)
    last = told_moment(until)
    ride = Ride(net, told, last)
    first = None
    labels = ride.label_curves()
    for index, (way, comers) in enumerate(told):
        moment = first_loss(comers, gap_between(ride.way_curve(way), labels[net.end()]))
        if moment is not None and (first is None or is_less(moment, first[0])):
            first = (moment, index)
    if first is None:
        return None
    return (first[0], first[1], ride.way_behind(first[0]))


def gain_of(net, plan, index, moment, until):
    """How many beats one of a group is later at the end, or at until, than it could be."""
    told = told_plan(net, plan)
    if not is_index(index, len(told)):
        raise BadGroup(index)
    now = told_moment(moment)
    last = told_moment(until)
    ride = Ride(net, told, last)
    labels = ride.labels(now)
    if net.end() not in labels:
        return ZERO
    there = ride.end_by(told[index][0], now)
    if there is None:
        there = last
    return minus(there, labels[net.end()])
