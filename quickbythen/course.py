"""The course of labels by which nobody gains, phase by phase."""

from quickbythen.bends import tidied
from quickbythen.errors import NoWay
from quickbythen.exact import ZERO, is_less, lowest, minus, plus, sooner
from quickbythen.nets import shortest
from quickbythen.stands import Stand


def check_way(net):
    """NoWay for a net whose end can not be come to."""
    if net.end() not in shortest(net):
        raise NoWay()


def spare(road, labels):
    """By how much the label of a road's end is more than length above that of its begin: a top and a bottom."""
    near_top, near_bottom = labels[road[0]]
    far_top, far_bottom = labels[road[1]]
    return (far_top * near_bottom - (near_top + road[2] * near_bottom) * far_bottom, near_bottom * far_bottom)


def excess(road, labels):
    """The same as a fraction in lowest terms."""
    top, bottom = spare(road, labels)
    return lowest(top, bottom)


def stand_by(net, labels):
    """The stand of the roads that are quick, and that are waiting, by labels."""
    quick = []
    waiting = []
    for number, road in enumerate(net.roads()):
        if road[0] in labels:
            more = spare(road, labels)[0]
            if more >= 0:
                quick.append(number)
            if more > 0:
                waiting.append(number)
    return Stand(net, quick, waiting)


def rate_from(steps, moment):
    """The rate from a moment on, by told comers."""
    found = ZERO
    for begin, rate in steps:
        if is_less(moment, begin):
            break
        found = rate
    return found


def beats_left(net, labels, slopes):
    """How long until a wait comes to 0 or a road becomes quick, a top and a bottom; None if that never is."""
    first = None
    for road in net.roads():
        if road[0] not in labels:
            continue
        more, bottom = spare(road, labels)
        near_top, near_bottom = slopes[road[0]]
        far_top, far_bottom = slopes[road[1]]
        growth = far_top * near_bottom - near_top * far_bottom
        # A waiting road comes to wait no more, or one that is not quick becomes so.
        if more < 0 < growth or growth < 0 < more:
            top = abs(more) * near_bottom * far_bottom
            under = abs(growth) * bottom
            if first is None or top * first[1] < first[0] * under:
                first = (top, under)
    return first


def end_of(net, steps, moment, labels, slopes):
    """When a phase ends that begins at a moment, None if it never does."""
    end = None
    for begin, _ in steps:
        if is_less(moment, begin):
            end = begin
            break
    left = beats_left(net, labels, slopes)
    if left is None:
        return end
    return sooner(end, plus(moment, left))


def grown(labels, slopes, beats):
    """Labels, so many beats later."""
    found = {}
    for place in labels:
        top, bottom = labels[place]
        slope = slopes[place]
        under = slope[1] * beats[1]
        found[place] = lowest(top * under + slope[0] * beats[0] * bottom, bottom * under)
    return found


def course(net, steps, many, until):
    """The first so many phases, fewer if it rests or a moment is come to: each as (moment, labels, slopes, goes, end).

    The end is None for ever; until is None to let no moment end it. NoWay if there is no way.
    """
    found = []
    moment = ZERO
    labels = shortest(net)
    if net.end() not in labels:
        raise NoWay()
    while len(found) < many:
        slopes, goes = stand_by(net, labels).table(rate_from(steps, moment))
        end = end_of(net, steps, moment, labels, slopes)
        found.append((moment, labels, slopes, goes, end))
        if end is None or (until is not None and not is_less(end, until)):
            return found
        labels = grown(labels, slopes, minus(end, moment))
        moment = end
    return found


def course_to(net, steps, many, until):
    """The course up to the phase in which a moment is, None if it is behind the first so many."""
    found = course(net, steps, many, until)
    end = found[-1][4]
    if end is not None and is_less(end, until):
        return None
    return found


def labels_then(phase, moment):
    """The labels at a moment in a phase."""
    return grown(phase[1], phase[2], minus(moment, phase[0]))


def label_bends(found, place):
    """The curve of the labels of a place, as if the last phase of a course went on for ever."""
    return tidied([(phase[0], phase[1][place]) for phase in found], found[-1][2][place])
