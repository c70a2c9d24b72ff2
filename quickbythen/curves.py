"""Curves: what they are, and what is asked of them."""

from quickbythen.bends import first_positive, gap_between, moments_of, pieces_of, slope_of, tidied, worth_of
from quickbythen.checks import told_fraction, told_moment
from quickbythen.exact import ZERO, is_less, lowest, minus, over, plus, times
from quickbythen.kinds import is_fraction, is_list, is_moment, is_pair
from quickbythen.refusals import BadCurve


def are_corners(thing):
    """Whether a thing is a list of the corners of some curve."""
    if not is_list(thing) or len(thing) == 0:
        return False
    for index, corner in enumerate(thing):
        if not (is_pair(corner) and is_moment(corner[0]) and is_fraction(corner[1])):
            return False
        if index == 0 and corner[0][0] > 0:
            return False
        if index > 0 and not is_less(thing[index - 1][0], corner[0]):
            return False
    return True


def is_curve(thing):
    """Whether a thing is a curve."""
    return is_pair(thing) and is_fraction(thing[1]) and are_corners(thing[0])


def plain(curve):
    """The told curve that means the same."""
    if not is_curve(curve):
        raise BadCurve(curve)
    corners = [(lowest(moment[0], moment[1]), lowest(worth[0], worth[1])) for moment, worth in curve[0]]
    return tidied(corners, lowest(curve[1][0], curve[1][1]))


def worth_at(curve, moment):
    """The worth of a curve at a moment."""
    told = plain(curve)
    return worth_of(told, told_moment(moment))


def slope_at(curve, moment):
    """What a curve grows by a beat from a moment on."""
    told = plain(curve)
    return slope_of(told, told_moment(moment))


def first_at(curve, worth):
    """The first moment at which the worth is at least this, None if it never is."""
    told = plain(curve)
    wanted = told_fraction(worth)
    pieces = pieces_of(told)
    for index, (begin, height, slope) in enumerate(pieces):
        if not is_less(height, wanted):
            return begin
        if slope[0] > 0:
            moment = plus(begin, over(minus(wanted, height), slope))
            if index + 1 == len(pieces) or is_less(moment, pieces[index + 1][0]):
                return moment
    return None


def first_above(one, other):
    """The first moment at which, or right behind which, one is above other, None if it is nowhere."""
    first = plain(one)
    return first_positive(gap_between(first, plain(other)))


def first_apart(one, other):
    """The first moment at which, or right behind which, both are unlike, None if they mean the same."""
    first = plain(one)
    for moment, worth, slope in pieces_of(gap_between(first, plain(other))):
        if worth != ZERO or slope != ZERO:
            return moment
    return None


def area(curve, begin, end):
    """The area between a curve and 0 from one moment to another one."""
    told = plain(curve)
    moments = [told_moment(begin)]
    last = told_moment(end)
    found = ZERO
    for moment in moments_of(told):
        if is_less(moments[0], moment) and is_less(moment, last):
            moments.append(moment)
    moments.append(last)
    for index in range(1, len(moments)):
        if is_less(moments[index - 1], moments[index]):
            both = plus(worth_of(told, moments[index - 1]), worth_of(told, moments[index]))
            found = plus(found, times(both, times(minus(moments[index], moments[index - 1]), (1, 2))))
    return found
