"""What is known of a bundle from how long each drop of one stream took."""

from quickbythen.bends import merged, moments_of, worth_of
from quickbythen.checks import told_comers
from quickbythen.curves import is_curve, plain
from quickbythen.exact import greater, is_less
from quickbythen.lanes import room_within, told_lanes
from quickbythen.passing import passed, through_curve
from quickbythen.refusals import BadCurve
from quickbythen.roombounds import RoomBounds, first_misfit


def told_through(curve):
    """A curve whose first worth is an integer from 1 on; BadCurve for what is none."""
    if not is_curve(curve):
        raise BadCurve(curve)
    told = plain(curve)
    first = told[0][0][1]
    if first[1] != 1 or first[0] < 1:
        raise BadCurve(curve)
    return told


def fits_until(comers, curve):
    """The greatest moment up to which some bundle has a curve, None if some has all of it."""
    steps = told_comers(comers)
    told = told_through(curve)
    return first_misfit(RoomBounds(told[0][0][1][0]), steps, told)


def last_number(steps, curve):
    """The greatest number of which a curve tells how much room there is by it."""
    worths = [worth for _, worth in curve[0]]
    if curve[1][0] > 0:
        worths = [worth_of(curve, merged(moments_of(curve), [begin for begin, _ in steps])[-1])]
    return max([worth[0] // worth[1] for worth in worths])


def seen_bounds(comers, curve):
    """By numbers, the least and the most room of bundles that have a curve, and whether there is no more; or None."""
    steps = told_comers(comers)
    told = told_through(curve)
    bounds = RoomBounds(told[0][0][1][0])
    if first_misfit(bounds, steps, told) is not None:
        return None
    return (bounds.told_up_to(last_number(steps, told)), told[1][0] > 0)


def whole_room(lanes):
    """The rooms of all lanes together."""
    return (room_within(lanes, lanes[-1][0]), 1)


def tells_all(bundle, comers):
    """Whether no bundle of other lanes has the same through."""
    lanes = told_lanes(bundle)
    return is_less(whole_room(lanes), told_comers(comers)[-1][1])


def twin_for(bundle, comers):
    """The lanes of another bundle with the same through, None if there is none."""
    lanes = told_lanes(bundle)
    steps = told_comers(comers)
    if is_less(whole_room(lanes), steps[-1][1]):
        return None
    greatest = (0, 1)
    for _, worth in through_curve(passed(lanes, steps))[0]:
        greatest = greater(greatest, worth)
    # A lane that is longer than anybody ever takes is one that nobody ever sees.
    length = greatest[0] // greatest[1] + 1
    rooms = {lane[0]: lane[1] for lane in lanes}
    rooms[length] = rooms.get(length, 0) + 1
    return [(other, rooms[other]) for other in sorted(rooms)]
