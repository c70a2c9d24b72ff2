"""The course of labels by which nobody gains, phase by phase."""

from quickbythen.bends import tidied
from quickbythen.errors import NoWay
from quickbythen.exact import ZERO, is_less, minus, negative, over, plus, sooner, times
from quickbythen.nets import shortest
from quickbythen.stands import Stand


def check_way(net):
    """NoWay for a net whose end can not be come to."""
    if net.end() not in shortest(net):
        raise NoWay()


def excess(road, labels):
    """By how much the label of a road's end is more than length above that of its begin."""
    return minus(minus(labels[road[1]], labels[road[0]]), (road[2], 1))


def stand_by(net, labels):
    """The stand of the roads that are quick, and that are waiting, by labels."""
    quick = []
    waiting = []
    for number, road in enumerate(net.roads()):
        if road[0] in labels:
            more = excess(road, labels)
            if more[0] >= 0:
                quick.append(number)
            if more[0] > 0:
                waiting.append(number)
    return Stand(net, quick, waiting)


def rate_from(steps, moment):
    """The rate from a moment on, by told comers."""
    return [rate for begin, rate in steps if not is_less(moment, begin)][-1]


def end_of(net, steps, moment, labels, slopes):
    """When a phase ends that begins at a moment, None if it never does."""
    end = None
    for begin, _ in steps[::-1]:
        if is_less(moment, begin):
            end = begin
    for road in net.roads():
        if road[0] not in labels:
            continue
        more = excess(road, labels)
        growth = minus(slopes[road[1]], slopes[road[0]])
        # A waiting road comes to wait no more, or one that is not quick becomes so.
        if more[0] * growth[0] < 0:
            end = sooner(end, plus(moment, over(more, negative(growth))))
    return end


def grown(labels, slopes, beats):
    """Labels, so many beats later."""
    return {place: plus(labels[place], times(slopes[place], beats)) for place in labels}


def course(net, steps, many, until):
    """The first so many phases, fewer if it rests or a moment is come to: each as (moment, labels, slopes, goes, end).

    The end is None for ever; until is None to let no moment end it.
    """
    found = []
    moment = ZERO
    labels = shortest(net)
    while len(found) < many:
        slopes, goes = stand_by(net, labels).table(rate_from(steps, moment))
        end = end_of(net, steps, moment, labels, slopes)
        found.append((moment, labels, slopes, goes, end))
        if end is None or (until is not None and not is_less(end, until)):
            return found
        labels = grown(labels, slopes, minus(end, moment))
        moment = end
    return found


def course_to(net, steps, many, until):
    """The course up to the phase in which a moment is, None if it is behind the first so many."""
    found = course(net, steps, many, until)
    end = found[-1][4]
    if end is not None and is_less(end, until):
        return None
    return found


def labels_then(phase, moment):
    """The labels at a moment in a phase."""
    return grown(phase[1], phase[2], minus(moment, phase[0]))


def label_bends(found, place):
    """The curve of the labels of a place, as if the last phase of a course went on for ever."""
    return tidied([(phase[0], phase[1][place]) for phase in found], found[-1][2][place])
