"""What a road more or less does to a net, and nets in which no road more harms."""

from quickbythen.checks import told_comers, told_many
from quickbythen.compared import stretches_by
from quickbythen.course import course, stand_by
from quickbythen.errors import BadRoad
from quickbythen.kinds import is_index
from quickbythen.nets import Net, shortest


def idle(net, comers, many):
    """The ascending list of the roads that are quick at the begin of none of the first so many phases."""
    steps = told_comers(comers)
    number = told_many(many)
    quick = [road for phase in course(net, steps, number, None) for road in stand_by(net, phase[1]).quick]
    return [road for road in range(len(net.roads())) if road not in quick]


def left_without(net, road):
    """The net without the road with this number."""
    roads = [other for number, other in enumerate(net.roads()) if number != road]
    return Net(net.places(), roads, net.start(), net.end())


def without_road(net, road):
    """The net without a road."""
    if not is_index(road, len(net.roads())):
        raise BadRoad(road)
    return left_without(net, road)


def harming(net, comers, many):
    """The ascending list of the roads without which there is a way, and somebody is earlier."""
    steps = told_comers(comers)
    number = told_many(many)
    found = []
    first = course(net, steps, number, None)
    for road in range(len(net.roads())):
        other = left_without(net, road)
        if other.end() not in shortest(other):
            continue
        second = course(other, steps, number, None)
        if "earlier" in [word for _, _, word in stretches_by(net, first, other, second)]:
            found.append(road)
    return found


def row_from(following, place):
    """The places that follow one another from a place on, as far as there are no rings."""
    row = [place]
    while row[-1] in following:
        row.append(following[row[-1]])
    return row


def is_chain(net):
    """Whether the places can be put in a row, the start first, the end last, with roads only from one to the next."""
    following = {}
    ahead = {}
    for one, other, _, _ in net.roads():
        if following.get(one, other) != other or ahead.get(other, one) != one:
            return False
        following[one] = other
        ahead[other] = one
    if net.start() in ahead or net.end() in following:
        return False
    rows = {place: row_from(following, place) for place in range(net.places()) if place not in ahead}
    # Places in a ring are in no row; and where the row of the start has the end, no other one fits in.
    if sum([len(rows[place]) for place in rows]) < net.places():
        return False
    first = rows[net.start()]
    return net.end() not in first or len(first) == net.places()
