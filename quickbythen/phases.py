"""The course of labels by which nobody gains: its phases, and what is asked of it."""

from quickbythen.checks import told_comers, told_many, told_moment
from quickbythen.course import course, course_to, excess, label_bends, labels_then, rate_from
from quickbythen.errors import BadPlace, BadRoad
from quickbythen.exact import ZERO, greater, is_less, lesser, minus, plus, times
from quickbythen.kinds import is_index
from quickbythen.nets import shortest


def phases(net, comers, many):
    """The list of the first so many phases, fewer if the course rests in one of these."""
    steps = told_comers(comers)
    number = told_many(many)
    return [phase[:4] for phase in course(net, steps, number, None)]


def rests(net, comers, many):
    """The number of the phase in which the course rests, None if that is none of the first so many."""
    steps = told_comers(comers)
    number = told_many(many)
    found = course(net, steps, number, None)
    if found[-1][4] is not None:
        return None
    return len(found) - 1


def check_place(net, place):
    """BadPlace for what is no place that can be come to."""
    if not is_index(place, net.places()) or place not in shortest(net):
        raise BadPlace(place)


def check_road(net, road):
    """BadRoad for what is no number of a road whose begin can be come to."""
    roads = net.roads()
    if not is_index(road, len(roads)) or roads[road][0] not in shortest(net):
        raise BadRoad(road)


def labels_known(net, steps, moment, many):
    """The labels for who sets out at a moment, None if they are not known by so many phases."""
    then = told_moment(moment)
    number = told_many(many)
    found = course_to(net, steps, number, then)
    if found is None:
        return None
    return labels_then(found[-1], then)


def label_at(net, comers, place, moment, many):
    """The label of a place for who sets out at a moment, None if that is not known by so many phases."""
    steps = told_comers(comers)
    check_place(net, place)
    labels = labels_known(net, steps, moment, many)
    if labels is None:
        return None
    return labels[place]


def label_curve(net, comers, place, many):
    """The curve of all labels of a place, None if the course does not rest in one of the first so many phases."""
    steps = told_comers(comers)
    check_place(net, place)
    number = told_many(many)
    found = course(net, steps, number, None)
    if found[-1][4] is not None:
        return None
    return label_bends(found, place)


def line_at(net, comers, road, moment, many):
    """The line that who sets out at a moment finds at a road, None if that is not known by so many phases."""
    steps = told_comers(comers)
    check_road(net, road)
    labels = labels_known(net, steps, moment, many)
    if labels is None:
        return None
    along = net.roads()[road]
    return times(greater(excess(along, labels), ZERO), (along[3], 1))


def sum_between(net, steps, begin, end, many, heights):
    """What heights tell of a phase and a moment, summed up over the beats between two moments; None if not known."""
    first = told_moment(begin)
    last = told_moment(end)
    number = told_many(many)
    found = course_to(net, steps, number, last)
    if found is None:
        return None
    area = ZERO
    for phase in found:
        left = greater(phase[0], first)
        right = last if phase[4] is None else lesser(phase[4], last)
        if is_less(left, right):
            both = plus(heights(phase, left), heights(phase, right))
            area = plus(area, times(both, times(minus(right, left), (1, 2))))
    return area


def waited(net, comers, begin, end, many):
    """What all wait who set out between two moments, None if that is not known by so many phases."""
    steps = told_comers(comers)
    roads = net.roads()

    def waiting(phase, moment):
        """What they wait who set out at a moment in a phase, for a beat of setting out."""
        labels = labels_then(phase, moment)
        heap = ZERO
        for road in phase[3]:
            heap = plus(heap, times(phase[3][road], excess(roads[road], labels)))
        return heap

    return sum_between(net, steps, begin, end, many, waiting)


def lost(net, comers, begin, end, many):
    """By how much all are later than by the shortest length who set out between two moments, None likewise."""
    steps = told_comers(comers)
    place = net.end()
    least = shortest(net)

    def losing(phase, moment):
        """By how much they are later who set out at a moment in a phase, for a beat of setting out."""
        late = minus(minus(labels_then(phase, moment)[place], moment), least[place])
        return times(rate_from(steps, phase[0]), late)

    return sum_between(net, steps, begin, end, many, losing)
