"""Promises about what names mean: what they are, whether they hold, and what shows it."""

from quickbythen.compared import first_later
from quickbythen.course import course, excess, labels_then
from quickbythen.exact import ZERO, greater, is_less, times
from quickbythen.gains import first_gain
from quickbythen.kinds import is_count, is_index, is_integer, is_list, is_moment
from quickbythen.naming import net_by, plan_by, steps_by
from quickbythen.nets import shortest
from quickbythen.phases import label_at, rests
from quickbythen.plans import tally


def has_way(things, name):
    """Whether any object means a net with a way."""
    net = net_by(things, name)
    return net is not None and net.end() in shortest(net)


def is_flow_of(things, net, stream, many):
    """Whether objects mean a net with a way and comers, and how many phases are looked at."""
    return has_way(things, net) and steps_by(things, stream) is not None and is_count(many)


def is_road_of(things, net, road):
    """Whether an object is the number of a road of a named net whose begin can be come to."""
    found = net_by(things, net)
    roads = found.roads()
    return is_index(road, len(roads)) and roads[road][0] in shortest(found)


def is_promise_on(things, thing):
    """Whether a thing is a promise while names mean these things."""
    if not is_list(thing) or len(thing) == 0 or not isinstance(thing[0], str):
        return False
    word = thing[0]
    if word == "by" and len(thing) == 6:
        return is_flow_of(things, thing[1], thing[2], thing[5]) and is_moment(thing[3]) and is_moment(thing[4])
    if word == "rests" and len(thing) == 4:
        return is_flow_of(things, thing[1], thing[2], thing[3])
    if word == "line" and len(thing) == 6:
        is_flow = is_flow_of(things, thing[1], thing[2], thing[5])
        return is_flow and is_road_of(things, thing[1], thing[3]) and is_moment(thing[4])
    if word == "never later" and len(thing) == 5:
        return has_way(things, thing[1]) and is_flow_of(things, thing[2], thing[3], thing[4])
    if word == "calm" and len(thing) == 3:
        return plan_by(things, thing[1]) is not None and is_moment(thing[2])
    if word == "there" and len(thing) == 4:
        return plan_by(things, thing[1]) is not None and is_moment(thing[2]) and is_moment(thing[3])
    return False


def greatest_line(net, steps, road, many):
    """The greatest line at a road that drops find, or come near to; None if the course does not rest, or it grows."""
    found = course(net, steps, many, None)
    if found[-1][4] is not None:
        return None
    along = net.roads()[road]
    most = ZERO
    for moment, labels, slopes, goes, end in found:
        if not goes:
            continue
        most = greater(most, excess(along, labels))
        if end is not None:
            most = greater(most, excess(along, labels_then((moment, labels, slopes), end)))
        elif is_less(slopes[along[0]], slopes[along[1]]) and excess(along, labels)[0] >= 0:
            return None
    return times(most, (along[3], 1))


def shown_by(things, promise):
    """Whether a promise holds while names mean these things, and what shows it."""
    word = promise[0]
    if word == "calm":
        net, plan = plan_by(things, promise[1])
        gain = first_gain(net, plan, promise[2])
        return (gain is None, gain)
    if word == "there":
        net, plan = plan_by(things, promise[1])
        heap = tally(net, plan, promise[3])[3]
        return (not is_less(heap, promise[2]), heap)
    net = net_by(things, promise[1])
    if word == "never later":
        steps = steps_by(things, promise[3])
        later = first_later(net, steps, net_by(things, promise[2]), steps, promise[4])
        return (later is None, later)
    steps = steps_by(things, promise[2])
    if word == "rests":
        number = rests(net, steps, promise[3])
        return (number is not None, number)
    if word == "by":
        label = label_at(net, steps, net.end(), promise[3], promise[5])
        return (label is not None and not is_less(promise[4], label), label)
    line = greatest_line(net, steps, promise[3], promise[5])
    return (line is not None and not is_less(promise[4], line), line)


def is_kept(things, promise):
    """Whether a thing is a promise, and holds, while names mean these things."""
    return is_promise_on(things, promise) and shown_by(things, promise)[0]


def names_in(promise):
    """The names that a promise names."""
    return [part for part in promise[1:] if isinstance(part, str)]


def is_about(things, promise, name):
    """Whether a promise hangs on what a name means."""
    for other in names_in(promise):
        plan = things[other]
        if other == name or (plan_by(things, other) is not None and plan[1] == name):
            return True
    return False


def told_promise(promise):
    """A promise with tuples for all lists in it."""
    return tuple([told_promise(part) if is_list(part) else part for part in promise])


def is_same(thing, promise):
    """Whether any object is a told promise, lists and tuples alike, but True no 1."""
    if is_list(thing) and is_list(promise):
        return len(thing) == len(promise) and all([is_same(one, other) for one, other in zip(thing, promise)])
    if isinstance(thing, str) and isinstance(promise, str):
        return thing == promise
    return is_integer(thing) and is_integer(promise) and thing == promise


def index_of(promises, thing):
    """The index of the told promise that any object is, None if it is none of them."""
    for index, promise in enumerate(promises):
        if is_same(thing, promise):
            return index
    return None
