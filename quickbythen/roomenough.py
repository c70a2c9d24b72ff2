"""How much room keeps lines short, and what can be wanted of a road."""

from quickbythen.bends import first_positive, gap_between, heap_curve, put_off, straight, together_with
from quickbythen.checks import told_comers, told_heap, told_lane, told_moment, told_rate
from quickbythen.curves import plain
from quickbythen.exact import ONE, ZERO, greater, minus, over, plus
from quickbythen.heldcurves import pushed_ahead, risen_up, too_steep
from quickbythen.lookedback import comers_behind
from quickbythen.madecurves import greatest_of


def crowd(comers, room, most):
    """Two moments from which to which more come than most and room let, None if there are none."""
    came = heap_curve(told_comers(comers))
    rate = told_rate(room)
    return too_steep(came, together_with(came, straight(told_heap(most), ZERO), ONE), rate)


def greatest_rate(came, more_heap, more_time):
    """The greatest one of heaps, less more_heap, by their beats and more_time, and the last rate."""
    corners, best = came
    for index, (begin, ahead) in enumerate(corners):
        for end, heap in corners[index + 1:]:
            beats = plus(minus(end, begin), more_time)
            best = greater(best, over(minus(minus(heap, ahead), more_heap), beats))
    return best


def room_for_line(comers, most):
    """The least room with which the line is at no moment above most."""
    came = heap_curve(told_comers(comers))
    return greatest_rate(came, told_heap(most), ZERO)


def room_for_wait(comers, most):
    """The least room with which nobody waits longer than most beats."""
    came = heap_curve(told_comers(comers))
    return greatest_rate(came, ZERO, told_moment(most))


def too_much(road, wanted):
    """The first moment at which more is wanted than can be out at all, None if it is nowhere."""
    length, room = told_lane(road)
    roof = put_off(straight(ZERO, (room, 1)), (length, 1))
    return first_positive(gap_between(plain(wanted), roof))


def latest_comers(road, wanted):
    """The fewest and latest comers of whom so many are out as are wanted, None if there are none."""
    if too_much(road, wanted) is not None:
        return None
    needed = risen_up(greatest_of([wanted, straight(ZERO, ZERO)]))
    return comers_behind(road, pushed_ahead(needed, (told_lane(road)[1], 1)))
