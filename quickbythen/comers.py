"""How many drops come, and when."""

from quickbythen.checks import told_comers, told_moment
from quickbythen.exact import ZERO, is_less, lesser, minus, plus, times


def rate_at(comers, moment):
    """The rate from a moment on."""
    steps = told_comers(comers)
    then = told_moment(moment)
    found = ZERO
    for begin, rate in steps:
        if not is_less(then, begin):
            found = rate
    return found


def come_by(comers, moment):
    """The heap that came ahead of a moment."""
    steps = told_comers(comers)
    then = told_moment(moment)
    heap = ZERO
    for index, (begin, rate) in enumerate(steps):
        end = then
        if index + 1 < len(steps):
            end = lesser(then, steps[index + 1][0])
        if is_less(begin, end):
            heap = plus(heap, times(rate, minus(end, begin)))
    return heap
