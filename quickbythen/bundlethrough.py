"""What comes of it if all go the lane of a bundle that is quickest by then."""

from quickbythen.checks import told_comers
from quickbythen.lanes import told_lanes
from quickbythen.passing import lane_comers, out_curve, passed, through_curve


def time_through(bundle, comers):
    """The curve of how long who comes at a moment takes."""
    lanes = told_lanes(bundle)
    return through_curve(passed(lanes, told_comers(comers)))


def shares_of(bundle, comers):
    """The comers that go into each lane."""
    lanes = told_lanes(bundle)
    return lane_comers(lanes, passed(lanes, told_comers(comers)))


def bundle_out(bundle, comers):
    """The curve of how many are out by a moment."""
    lanes = told_lanes(bundle)
    steps = told_comers(comers)
    return out_curve(passed(lanes, steps), steps)
