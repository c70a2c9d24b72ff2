"""Bundles by which nobody ever takes longer than by others."""

from quickbythen.bends import first_positive, gap_between
from quickbythen.checks import told_comers
from quickbythen.lanes import cut_to, first_lack, lanes_with, lengths_in, room_within, told_lanes, told_most
from quickbythen.passing import passed, through_curve


def never_later(one, other, most):
    """Whether nobody takes longer by one than by other, whatever comes at rates up to most."""
    return later_steady(one, other, most) is None


def alike_bundles(one, other, most):
    """Whether each of two bundles is never later than the other one up to most."""
    first = told_lanes(one)
    second = told_lanes(other)
    bound = told_most(most)
    return cut_to(first, bound) == cut_to(second, bound)


def later_steady(one, other, most):
    """A rate with which steady comers show that one is later, None if it never is."""
    first = told_lanes(one)
    second = told_lanes(other)
    return first_lack(first, second, told_most(most))


def later_until(one, other, comers):
    """The moment until which nobody takes longer by one, None if nobody ever does."""
    first = told_lanes(one)
    second = told_lanes(other)
    steps = told_comers(comers)
    return first_positive(gap_between(through_curve(passed(first, steps)), through_curve(passed(second, steps))))


def as_quick_as_both(one, other):
    """The lanes of the bundle that has by each number the greater room of both."""
    first = told_lanes(one)
    second = told_lanes(other)
    return lanes_with([(length, max(room_within(first, length), room_within(second, length)))
                       for length in lengths_in(first, second)])


def as_slow_as_both(one, other):
    """The lanes of the bundle that has by each number the lesser room of both."""
    first = told_lanes(one)
    second = told_lanes(other)
    return lanes_with([(length, min(room_within(first, length), room_within(second, length)))
                       for length in lengths_in(first, second)])
