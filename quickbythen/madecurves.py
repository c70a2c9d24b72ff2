"""Curves that are made of curves, and of comers."""

from quickbythen.bends import (first_positive, gap_between, heap_curve, merged, moments_of, pieces_of, scaled_by,
                               steps_of, straight, tidied, together_with, worth_of, worths_of)
from quickbythen.checks import told_comers, told_fraction
from quickbythen.curves import is_curve, plain
from quickbythen.exact import ONE, ZERO, is_less, lesser, minus, over, plus, times
from quickbythen.kinds import is_list
from quickbythen.refusals import BadCurves, IsBelow, NotGrowing, NotRising


def told_curves(curves):
    """All curves in a list as told ones; BadCurves for what is none."""
    if not is_list(curves):
        raise BadCurves(0)
    for index, curve in enumerate(curves):
        if not is_curve(curve):
            raise BadCurves(index)
    return [plain(curve) for curve in curves]


def some_curves(curves):
    """As told_curves, but at least one."""
    found = told_curves(curves)
    if not found:
        raise BadCurves(0)
    return found


def added(curves):
    """The curve of the sums of all worths."""
    found = straight(ZERO, ZERO)
    for curve in told_curves(curves):
        found = together_with(found, curve, ONE)
    return found


def lower_of(one, other):
    """The curve of the lesser one of two worths."""
    moments = merged(moments_of(one), moments_of(other))
    firsts = worths_of(one, moments)
    seconds = worths_of(other, moments)
    corners = []
    for index, moment in enumerate(moments):
        gap = minus(firsts[index], seconds[index])
        corners.append((moment, firsts[index] if gap[0] < 0 else seconds[index]))
        growth = minus(one[1], other[1])
        if index + 1 < len(moments):
            later = minus(firsts[index + 1], seconds[index + 1])
            growth = over(minus(later, gap), minus(moments[index + 1], moment))
        # Where both cross on from here, the lesser one bends, if that is ahead of the next corner.
        if gap[0] * growth[0] < 0:
            crossing = minus(moment, over(gap, growth))
            if index + 1 == len(moments) or is_less(crossing, moments[index + 1]):
                corners.append((crossing, worth_of(one, crossing)))
    # They cross no more behind these moments: so who is lower then grows no more than the other one.
    return tidied(corners, lesser(one[1], other[1]))


def lowest_of(curves):
    """The curve of the least worths of told curves, one or more."""
    found = curves[0]
    for curve in curves[1:]:
        found = lower_of(found, curve)
    return found


def least_of(curves):
    """The curve of the least worths."""
    return lowest_of(some_curves(curves))


def greatest_of(curves):
    """The curve of the greatest worths."""
    turned_over = [scaled_by(curve, (-1, 1)) for curve in some_curves(curves)]
    return scaled_by(lowest_of(turned_over), (-1, 1))


def scaled(curve, factor):
    """The curve of a factor times the worths."""
    told = plain(curve)
    return scaled_by(told, told_fraction(factor))


def difference(one, other):
    """The curve of the worths of one less those of other."""
    first = plain(one)
    return gap_between(first, plain(other))


def moments_through(outer, inner):
    """The moments at which the worth of inner is the moment of a corner of outer, or inner bends."""
    found = []
    pieces = pieces_of(inner)
    for index, (begin, worth, slope) in enumerate(pieces):
        found.append(begin)
        if slope == ZERO:
            continue
        passed = [plus(begin, over(minus(moment, worth), slope)) for moment in moments_of(outer)]
        if slope[0] < 0:
            passed = passed[::-1]
        for moment in passed:
            is_within = index + 1 == len(pieces) or is_less(moment, pieces[index + 1][0])
            if is_less(begin, moment) and is_within:
                found.append(moment)
    return found


def behind(one, other):
    """The curve of the worth that one has at the moment that is other's worth."""
    outer = plain(one)
    inner = plain(other)
    moment = first_positive(scaled_by(inner, (-1, 1)))
    if moment is not None:
        raise IsBelow(moment)
    corners = [(moment, worth_of(outer, worth_of(inner, moment))) for moment in moments_through(outer, inner)]
    return tidied(corners, times(outer[1], inner[1]))


def turned(curve):
    """The curve that tells when each worth is come to."""
    told = plain(curve)
    if told[0][0][1] != ZERO:
        raise NotGrowing(ZERO)
    for moment, _, slope in pieces_of(told):
        if slope[0] <= 0:
            raise NotGrowing(moment)
    return ([(worth, moment) for moment, worth in told[0]], over(ONE, told[1]))


def curve_of(comers):
    """The curve of the heap that came by each moment."""
    return heap_curve(told_comers(comers))


def comers_of(curve):
    """The comers whose curve means the same."""
    told = plain(curve)
    if told[0][0][1] != ZERO:
        raise NotRising(ZERO)
    for moment, slope in steps_of(told):
        if slope[0] < 0:
            raise NotRising(moment)
    return steps_of(told)
