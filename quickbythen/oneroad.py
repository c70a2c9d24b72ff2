"""One road, played out: who goes in, who waits, who is out and when."""

from quickbythen.bends import gap_between, heap_curve, out_by_line, pieces_of, put_off
from quickbythen.checks import told_comers, told_lane
from quickbythen.exact import ZERO
from quickbythen.heldcurves import held


def heap_and_room(road, comers):
    """The length of a road, the curve of who comes to it, and of who has gone in."""
    length, room = told_lane(road)
    came = heap_curve(told_comers(comers))
    return (length, room, came, held(came, (room, 1)))


def went_in(road, comers):
    """The curve of how many have gone in."""
    return heap_and_room(road, comers)[3]


def line_on(road, comers):
    """The curve of how many wait in line."""
    _, _, came, inside = heap_and_room(road, comers)
    return gap_between(came, inside)


def came_out(road, comers):
    """The curve of how many are out at the end."""
    length, _, _, inside = heap_and_room(road, comers)
    return put_off(inside, (length, 1))


def when_out(road, comers):
    """The curve of when who comes at a moment is out at the end."""
    length, room, came, inside = heap_and_room(road, comers)
    return out_by_line(gap_between(came, inside), length, room)


def busy(road, comers):
    """The pairs of moments between which there always is a line."""
    found = []
    begun = None
    for moment, heap, growth in pieces_of(line_on(road, comers)):
        if heap == ZERO and begun is not None:
            found.append((begun, moment))
            begun = None
        if heap == ZERO and growth != ZERO:
            begun = moment
    if begun is not None:
        found.append((begun, None))
    return found
