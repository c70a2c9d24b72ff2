"""Where one is who goes a way through the lines of a plan."""

from quickbythen.checks import told_moment
from quickbythen.nets import is_way
from quickbythen.plans import told_plan
from quickbythen.refusals import BadWay
from quickbythen.riding import Ride


def story(net, plan, way, moment, until):
    """The moments at which one is at the start and at the end of each road, as far as they are not behind until."""
    told = told_plan(net, plan)
    if not is_way(net, way):
        raise BadWay(way)
    now = told_moment(moment)
    last = told_moment(until)
    return Ride(net, told, last).stops(way, now)
