"""Bundles as lanes: pairs of a length and a room, the shortest first, no two as long."""

from quickbythen.checks import is_row
from quickbythen.exact import ZERO, is_less, lesser, lowest, minus
from quickbythen.kinds import is_fraction, is_list
from quickbythen.refusals import BadBundle, BadMost


def first_bad_row(thing):
    """The index of the first thing that keeps this from being a bundle, None if it is one."""
    if not is_list(thing) or len(thing) == 0:
        return 0
    for index, row in enumerate(thing):
        if not is_row(row):
            return index
    return None


def lane_of(row):
    """The length and the room of a row as one road."""
    return (sum([road[0] for road in row]), min([road[1] for road in row]))


def told_lanes(bundle):
    """The lanes of a bundle; BadBundle for what is none."""
    index = first_bad_row(bundle)
    if index is not None:
        raise BadBundle(index)
    rooms = {}
    for row in bundle:
        length, room = lane_of(row)
        rooms[length] = rooms.get(length, 0) + room
    return [(length, rooms[length]) for length in sorted(rooms)]


def told_most(most):
    """A rate above 0, or None; BadMost for what is neither."""
    if most is None:
        return None
    if not is_fraction(most) or most[0] <= 0:
        raise BadMost(most)
    return lowest(most[0], most[1])


def room_within(lanes, length):
    """The sum of the rooms of all lanes of at most this length."""
    return sum([lane[1] for lane in lanes if lane[0] <= length])


def room_below(lanes, length):
    """The sum of the rooms of all lanes that are shorter than a fraction."""
    return sum([lane[1] for lane in lanes if is_less((lane[0], 1), length)])


def up_to(room, most):
    """A room as a fraction, or most, if that is not None and less."""
    if most is None:
        return (room, 1)
    return lesser((room, 1), most)


def lengths_in(one, other):
    """The lengths, ascending, of the lanes of both."""
    lengths = [lane[0] for lane in one + other]
    return sorted(set(lengths))


def first_lack(one, other, most):
    """What one lacks, None if it is never later: the lesser one of other's room and most, by the first length."""
    for length in lengths_in(one, other):
        wanted = up_to(room_within(other, length), most)
        if is_less((room_within(one, length), 1), wanted):
            return wanted
    return None


def cut_to(lanes, most):
    """The first lanes that are together most, rooms as fractions, the last one's cut to what is left."""
    found = []
    left = most
    for length, room in lanes:
        much = up_to(room, left)
        if much != ZERO:
            found.append((length, much))
        if left is not None:
            left = minus(left, much)
    return found


def lanes_with(rooms):
    """The lanes by which the rooms of all up to a length are those of ascending pairs (length, room)."""
    found = []
    reached = 0
    for length, room in rooms:
        if room > reached:
            found.append((length, room - reached))
            reached = room
    return found
