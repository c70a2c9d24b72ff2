"""Drops that come to lanes side by side, each of which goes by one that is quickest then."""

from quickbythen.bends import heap_curve, leant, tidied
from quickbythen.checks import told_comers
from quickbythen.course import rate_from
from quickbythen.exact import ONE, ZERO, is_less, minus, over, plus, sooner, times
from quickbythen.lanes import room_below, room_within
from quickbythen.rows import out_by


def growth_of(short, met, rate):
    """What the through grows by a beat, from the rooms of lanes that are shorter, and that are not longer."""
    if is_less((met, 1), rate):
        return minus(over(rate, (met, 1)), ONE)
    if is_less(rate, (short, 1)):
        return minus(over(rate, (short, 1)), ONE)
    return ZERO


def next_length(lanes, through, growth):
    """The length of the next lane to which a through comes that grows, or falls; None if there is none."""
    longer = [length for length, _ in lanes if is_less(through, (length, 1))]
    shorter = [length for length, _ in lanes if is_less((length, 1), through)]
    if growth[0] > 0 and longer:
        return (longer[0], 1)
    if growth[0] < 0:
        return (shorter[-1], 1)
    return None


def passed(lanes, steps):
    """The stretches, (moment, through, growth, rate), in each of which through goes straight."""
    return passed_from(lanes, steps, (lanes[0][0], 1))


def passed_from(lanes, steps, through):
    """The same if who comes first takes so long, each shorter lane having the line for it."""
    found = []
    moment = ZERO
    while True:
        rate = rate_from(steps, moment)
        met = room_within(lanes, through[0] // through[1])
        growth = growth_of(room_below(lanes, through), met, rate)
        found.append((moment, through, growth, rate))
        stop = None
        for begin, _ in steps[::-1]:
            if is_less(moment, begin):
                stop = begin
        length = next_length(lanes, through, growth)
        if length is not None:
            stop = sooner(stop, plus(moment, over(minus(length, through), growth)))
        if stop is None:
            return found
        through = plus(through, times(growth, minus(stop, moment)))
        moment = stop


def through_curve(stretches):
    """The curve of how long who comes at a moment takes."""
    return tidied([(moment, through) for moment, through, _, _ in stretches], stretches[-1][2])


def when_curve(stretches):
    """The curve of when who comes at a moment is out."""
    return leant(through_curve(stretches), ONE)


def share_of(lanes, lane, stretch):
    """The rate at which drops go into a lane in a stretch."""
    _, through, growth, rate = stretch
    length, room = lane
    if is_less((length, 1), through) or (growth[0] > 0 and (length, 1) == through):
        return times((room, 1), plus(ONE, growth))
    if growth == ZERO and (length, 1) == through:
        return minus(rate, (room_below(lanes, through), 1))
    return ZERO


def lane_comers(lanes, stretches):
    """The comers of each lane."""
    return [told_comers([(stretch[0], share_of(lanes, lane, stretch)) for stretch in stretches]) for lane in lanes]


def out_curve(stretches, steps):
    """The curve of how many are out by a moment."""
    return out_by(when_curve(stretches), heap_curve(steps))
