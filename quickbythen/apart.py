"""When two schedules come apart, however often their parts come again."""

from quickbythen.exact import ZERO, greater, is_less, lesser, minus, plus
from quickbythen.parts import told_part


def alike_until(stop, first, second):
    """Until when both are alike around a moment, if they are alike up to stop: pairs of what comes again in both."""
    found = stop
    for begin, end, beats in first:
        for other_begin, other_end, other_beats in second:
            together = minus(stop, greater(begin, other_begin))
            # As long as both together: so each has the other one's beats, too, and goes on like it.
            if not is_less(together, plus(beats, other_beats)):
                found = greater(found, lesser(end, other_end))
    return found


def schedules_apart(one, other):
    """The least moment from which on unlike rates come, None if at all moments the same comes."""
    first = told_part(one)
    second = told_part(other)
    moment = ZERO
    while moment is not None:
        rate, end, around = first.run_at(moment)
        other_rate, other_end, other_around = second.run_at(moment)
        if rate != other_rate:
            return moment
        if end is None or other_end is None:
            moment = end if other_end is None else other_end
        else:
            moment = alike_until(lesser(end, other_end), around, other_around)
    return None
