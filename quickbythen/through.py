"""The earliest moments at which one can be anywhere, through the lines of a plan."""

from quickbythen.bends import straight
from quickbythen.checks import told_moment, told_worths
from quickbythen.errors import BadPlace
from quickbythen.exact import ZERO, is_less
from quickbythen.kinds import is_index
from quickbythen.nets import is_way, ways
from quickbythen.plans import told_plan
from quickbythen.refusals import BadWay
from quickbythen.riding import Ride


def labels_through(net, plan, moment, until):
    """The dict from the places at which one can be by until to the earliest moments."""
    told = told_plan(net, plan)
    now = told_moment(moment)
    last = told_moment(until)
    return Ride(net, told, last).labels(now)


def is_labels(net, plan, moment, until, thing):
    """Whether a thing shows labels: it does just if it is they."""
    labels = labels_through(net, plan, moment, until)
    return told_worths(thing) == labels


def quick_way(net, plan, moment, until):
    """A way by which one is at the end at its label, None if one can not be there by until."""
    told = told_plan(net, plan)
    now = told_moment(moment)
    last = told_moment(until)
    ride = Ride(net, told, last)
    labels = ride.labels(now)
    if net.end() not in labels:
        return None
    return ride.way_by(labels)


def quicker(net, plan, way, moment, until):
    """The ascending list of all ways by which one is at the end by until, and earlier than by this way."""
    told = told_plan(net, plan)
    if not is_way(net, way):
        raise BadWay(way)
    now = told_moment(moment)
    last = told_moment(until)
    ride = Ride(net, told, last)
    end = ride.end_by(way, now)
    found = []
    for other in ways(net):
        there = ride.end_by(other, now)
        if there is not None and (end is None or is_less(there, end)):
            found.append(other)
    return found


def label_through(net, plan, place, until):
    """The curve, by the moment of setting out, of the lesser one of a place's label and until."""
    told = told_plan(net, plan)
    if not is_index(place, net.places()):
        raise BadPlace(place)
    last = told_moment(until)
    curves = Ride(net, told, last).label_curves()
    if place not in curves:
        return straight(last, ZERO)
    return curves[place]
