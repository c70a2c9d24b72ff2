"""When drops with wishes set out so that nobody gains by another moment."""

from quickbythen.bends import after, gap_between, heap_curve, moments_of, straight, together_with, worth_of
from quickbythen.checks import first_bad_comer, told_comers
from quickbythen.exact import ONE, ZERO, is_less, minus, over, plus, times
from quickbythen.kinds import is_list
from quickbythen.oneroad import when_out
from quickbythen.refusals import BadSetting
from quickbythen.rows import together
from quickbythen.wishing import Wishing


def coming(moments, rates):
    """The comers who come at rates, each from its moment to the next one."""
    steps = [] if moments[0] == ZERO else [(ZERO, ZERO)]
    for index, rate in enumerate(rates):
        if is_less(moments[index], moments[index + 1]):
            steps.append((moments[index], rate))
    return told_comers(steps + [(moments[-1], ZERO)])


def settled(room, length, wishes, early, late):
    """The setting out by which nobody gains, those with earlier wishes ahead."""
    wishing = Wishing(room, length, wishes, early, late)
    wishing.check_soon()
    rates = [over(wishing.room, minus(ONE, wishing.early)), over(wishing.room, plus(ONE, wishing.late))]
    found = []
    for marks in wishing.marks():
        moments = [minus(minus(moment, wait), wishing.length) for moment, wait in marks]
        found.append(coming(moments, rates))
    return found


def stretches(room, length, wishes, early, late):
    """The stretches in which drops come to the end without a break, and the wishes in them."""
    wishing = Wishing(room, length, wishes, early, late)
    return [(begin, plus(begin, wishing.beats_of(row)), list(row)) for begin, row in wishing.rows]


def troubles(room, length, wishes, early, late):
    """The trouble that all drops of each wish have alike."""
    wishing = Wishing(room, length, wishes, early, late)
    found = []
    for index, marks in enumerate(wishing.marks()):
        moment, wait = marks[0]
        found.append(plus(wait, wishing.strain_at(index, moment)))
    return found


def first_bad_stream(wishing, thing):
    """The index of the first thing that keeps this from being a setting out, None if it is one."""
    if not is_list(thing):
        return 0
    heaps = wishing.heaps
    for index, steps in enumerate(thing):
        if index >= len(heaps) or first_bad_comer(steps) is not None:
            return index
        # The last rate being 0, the last corner has the whole heap.
        corners, rate = heap_curve(told_comers(steps))
        if rate != ZERO or corners[-1][1] != heaps[index]:
            return index
    if len(thing) < len(heaps):
        return len(thing)
    return None


def least_moment(curve):
    """A moment at which a curve that grows at last is least."""
    found = ZERO
    for moment in moments_of(curve):
        if is_less(worth_of(curve, moment), worth_of(curve, found)):
            found = moment
    return found


def first_worse(steps, trouble, least):
    """The first of some moments from which on drops come, with more than the least trouble; None if all have that."""
    for index, (begin, rate) in enumerate(steps):
        if rate == ZERO:
            continue
        end = steps[index + 1][0]
        inner = [moment for moment in moments_of(trouble) if is_less(begin, moment) and is_less(moment, end)]
        looked = [begin] + inner
        # Trouble that only rises behind the last one of these is seen halfway.
        looked.append(times(plus(looked[-1], end), (1, 2)))
        for moment in looked:
            if is_less(least, worth_of(trouble, moment)):
                return moment
    return None


def gains(room, length, wishes, early, late, thing):
    """A wish, a moment at which drops of it come, and one at which they would have less trouble; None if none gain."""
    wishing = Wishing(room, length, wishes, early, late)
    index = first_bad_stream(wishing, thing)
    if index is not None:
        raise BadSetting(index)
    streams = [told_comers(steps) for steps in thing]
    out = when_out((length, room), together(streams))
    wait = gap_between(out, straight(wishing.length, ONE))
    for index, steps in enumerate(streams):
        trouble = together_with(wait, after(wishing.strain(index), out), ONE)
        instead = least_moment(trouble)
        now = first_worse(steps, trouble, worth_of(trouble, instead))
        if now is not None:
            return (index, now, instead)
    return None
