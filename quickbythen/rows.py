"""Roads one behind another, and drops of several kinds."""

from quickbythen.bends import (gap_between, heap_curve, merged, moments_of, put_off, straight, tidied, together_with,
                               worth_of)
from quickbythen.checks import first_bad_comer, told_comers, told_lane, told_row
from quickbythen.exact import ONE, ZERO, over
from quickbythen.heldcurves import held
from quickbythen.kinds import is_list
from quickbythen.madecurves import comers_of
from quickbythen.oneroad import when_out
from quickbythen.refusals import BadStreams


def row_out(row, comers):
    """The curve of how many are out at the end of the last road."""
    roads = told_row(row)
    heap = heap_curve(told_comers(comers))
    for length, room in roads:
        heap = put_off(held(heap, (room, 1)), (length, 1))
    return heap


def row_lines(row, comers):
    """The list of the curves of the lines, road by road."""
    roads = told_row(row)
    heap = heap_curve(told_comers(comers))
    found = []
    for length, room in roads:
        inside = held(heap, (room, 1))
        found.append(gap_between(heap, inside))
        heap = put_off(inside, (length, 1))
    return found


def row_form(row):
    """The pairs of the length ahead and the room of the roads that let in less than all ahead of them."""
    found = []
    ahead = 0
    for length, room in told_row(row):
        if not found or room < found[-1][1]:
            found.append((ahead, room))
        ahead += length
    return found


def whole_length(row):
    """The sum of the lengths of a row."""
    return sum([road[0] for road in row])


def seen_alike(one, other):
    """Whether lines and what is out are the same by two rows, whatever comes."""
    first = told_row(one)
    second = told_row(other)
    return row_form(first) == row_form(second) and whole_length(first) == whole_length(second)


def parting_rate(one, other):
    """A steady rate that parts two rows, None if they are seen alike."""
    if seen_alike(one, other):
        return None
    # Above all rooms each road of a row's form has a line, so all of the form is seen.
    return (1 + max([road[1] for road in told_row(one) + told_row(other)]), 1)


def told_streams(streams):
    """The list of all comers as told ones; BadStreams for what is none."""
    if not is_list(streams) or len(streams) == 0:
        raise BadStreams(0)
    for index, comers in enumerate(streams):
        if first_bad_comer(comers) is not None:
            raise BadStreams(index)
    return [told_comers(comers) for comers in streams]


def together(streams):
    """The comers of all streams."""
    heap = straight(ZERO, ZERO)
    for comers in told_streams(streams):
        heap = together_with(heap, heap_curve(comers), ONE)
    return comers_of(heap)


def out_by(when, came):
    """The curve of how many are out, from when who comes is out and how many came."""
    corners = [(ZERO, ZERO)]
    for moment in merged(moments_of(when), moments_of(came)):
        out = worth_of(when, moment)
        # Who comes while others only wait is none: then no moment at the end is new.
        if out != corners[-1][0]:
            corners.append((out, worth_of(came, moment)))
    return tidied(corners, over(came[1], when[1]))


def letters_out(road, streams):
    """The list of the curves of how many of each kind are out at the end."""
    lane = told_lane(road)
    kinds = told_streams(streams)
    when = when_out(lane, together(kinds))
    return [out_by(when, heap_curve(comers)) for comers in kinds]
