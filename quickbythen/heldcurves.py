"""Curves that are kept from falling, and to a slope."""

from quickbythen.bends import (first_positive, gap_between, leant, moments_of, pieces_of, scaled_by, tidied, worth_of)
from quickbythen.checks import told_fraction
from quickbythen.curves import plain
from quickbythen.exact import ONE, ZERO, greater, is_less, minus, negative, over, plus


def risen_up(curve):
    """The least curve above a told one that falls nowhere."""
    corners = []
    best = curve[0][0][1]
    pieces = pieces_of(curve)
    for index, (begin, worth, slope) in enumerate(pieces):
        best = greater(best, worth)
        corners.append((begin, best))
        if is_less(worth, best) and slope[0] > 0:
            moment = plus(begin, over(minus(best, worth), slope))
            if index + 1 == len(pieces) or is_less(moment, pieces[index + 1][0]):
                corners.append((moment, best))
    return tidied(corners, greater(curve[1], ZERO))


def risen(curve):
    """The least curve that is nowhere below this one and falls nowhere."""
    return risen_up(plain(curve))


def held(curve, most):
    """The greatest curve below a told one that keeps to a slope."""
    level = leant(curve, negative(most))
    return leant(scaled_by(risen_up(scaled_by(level, (-1, 1))), (-1, 1)), most)


def held_back(curve, most):
    """The greatest curve that keeps to most and is nowhere above this one."""
    told = plain(curve)
    return held(told, told_fraction(most))


def fallen_to(curve):
    """The least curve above a told one, whose last slope is not above 0, that rises nowhere."""
    found = []
    best = curve[0][-1][1]
    following = best
    for begin, worth, slope in pieces_of(curve)[::-1]:
        if is_less(best, worth) and is_less(following, best):
            found.append((plus(begin, over(minus(best, worth), slope)), best))
        best = greater(best, worth)
        following = worth
        found.append((begin, best))
    return tidied(found[::-1], curve[1])


def pushed_ahead(curve, most):
    """The least curve that keeps to most and is nowhere below this one, None if there is none."""
    told = plain(curve)
    slope = told_fraction(most)
    if is_less(slope, told[1]):
        return None
    return leant(fallen_to(leant(told, negative(slope))), slope)


def kept_between(low, high, most):
    """A curve between two others that keeps to most, None if there is none."""
    floor = plain(low)
    roof = plain(high)
    found = held(roof, told_fraction(most))
    if first_positive(gap_between(floor, found)) is not None:
        return None
    return found


def too_steep(low, high, most):
    """Two moments from which to which low asks for more than high and most let, None if there are none."""
    floor = plain(low)
    roof = plain(high)
    slope = told_fraction(most)
    gap = gap_between(floor, held(roof, slope))
    moment = first_positive(gap)
    if moment is None:
        return None
    end = moment_above(gap, moment)
    return (tightest_begin(leant(roof, negative(slope)), end), end)


def moment_above(gap, moment):
    """A moment at which a curve is above 0 that is so from this moment on, or right behind it."""
    if worth_of(gap, moment)[0] > 0:
        return moment
    for later in moments_of(gap):
        if is_less(moment, later):
            return later
    return plus(moment, ONE)


def tightest_begin(level, end):
    """The first of the moments up to end at which a curve is least."""
    found = end
    for moment in moments_of(level)[::-1]:
        if not is_less(end, moment) and not is_less(worth_of(level, found), worth_of(level, moment)):
            found = moment
    return found
