"""Schedules: how many come, and when, told from the parts of which they are made."""

from quickbythen.checks import told_heap, told_moment
from quickbythen.exact import ZERO, is_less, minus, over, plus, times
from quickbythen.parts import is_part, steps_in, told_part


def is_schedule(thing):
    """Whether a thing is a schedule."""
    return is_part(thing)


def beats_of(schedule):
    """How many beats a schedule lasts."""
    return told_part(schedule).beats


def heap_of(schedule):
    """The heap that comes in all."""
    return told_part(schedule).heap


def rate_in(schedule, moment):
    """The rate from a moment on."""
    part = told_part(schedule)
    return part.run_at(told_moment(moment))[0]


def come_in(schedule, moment):
    """The heap that came ahead of a moment."""
    part = told_part(schedule)
    left = told_moment(moment)
    if not is_less(left, part.beats):
        return part.heap
    heap = ZERO
    while part.word != "rate":
        inner = part.inner[0]
        if part.word == "again":
            turns = over(left, inner.beats)
            whole = (turns[0] // turns[1], 1)
            heap = plus(heap, times(whole, inner.heap))
            left = minus(left, times(whole, inner.beats))
        else:
            index = 0
            while not is_less(left, inner.beats):
                heap = plus(heap, inner.heap)
                left = minus(left, inner.beats)
                index += 1
                inner = part.inner[index]
        part = inner
    return plus(heap, times(part.rate, left))


def moment_when(schedule, heap):
    """The least moment ahead of which a heap came, None if that is never."""
    part = told_part(schedule)
    left = told_heap(heap)
    if is_less(part.heap, left):
        return None
    moment = ZERO
    while left != ZERO and part.word != "rate":
        inner = part.inner[0]
        if part.word == "again":
            turns = over(left, inner.heap)
            # The last drop of a heap of whole turns comes at the end of the last one of them.
            whole = (-(-turns[0] // turns[1]) - 1, 1)
            left = minus(left, times(whole, inner.heap))
            moment = plus(moment, times(whole, inner.beats))
        else:
            index = 0
            while is_less(inner.heap, left):
                left = minus(left, inner.heap)
                moment = plus(moment, inner.beats)
                index += 1
                inner = part.inner[index]
        part = inner
    if left == ZERO:
        return moment
    return plus(moment, over(left, part.rate))


def written_out(schedule):
    """The comers by which the same rate comes at all moments."""
    return steps_in(told_part(schedule))
