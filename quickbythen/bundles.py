"""Bundles of rows, side by side from one place to another one."""

from quickbythen.checks import told_row
from quickbythen.kinds import is_number
from quickbythen.lanes import cut_to, lane_of, room_within, told_lanes, told_most
from quickbythen.nets import Net
from quickbythen.refusals import BadNumber


def as_road(row):
    """The sum of the lengths of a row, and its least room."""
    return lane_of(told_row(row))


def lanes_of(bundle):
    """The lanes of a bundle: what its rows are as roads, rooms of equal lengths added, the shortest first."""
    return told_lanes(bundle)


def room_by(bundle, number):
    """The sum of the rooms of all lanes of at most this length."""
    lanes = told_lanes(bundle)
    if not is_number(number):
        raise BadNumber(number)
    return room_within(lanes, number)


def cut_lanes(bundle, most):
    """The first lanes that are together most, rooms told as fractions; all if they are less, or most is None."""
    lanes = told_lanes(bundle)
    return cut_to(lanes, told_most(most))


def net_of(bundle):
    """The net of two places with a road for each lane."""
    return Net(2, [(0, 1, length, room) for length, room in told_lanes(bundle)], 0, 1)
