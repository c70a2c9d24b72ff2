"""The most that any shares bring through a bundle, and shares that bring it."""

from quickbythen.bends import (after, heap_curve, merged, moments_of, put_off, steps_of, straight, tidied,
                               together_with, worth_of)
from quickbythen.checks import first_bad_comer, told_comers
from quickbythen.exact import ONE, ZERO, greater, is_less, lesser, minus, over
from quickbythen.kinds import is_list
from quickbythen.lanes import told_lanes
from quickbythen.madecurves import lowest_of
from quickbythen.oneroad import came_out
from quickbythen.refusals import BadShares


def told_shares(lanes, shares):
    """The comers of each lane; BadShares for what is no list of comers, as many as lanes."""
    if not is_list(shares) or len(shares) != len(lanes):
        raise BadShares(shares)
    for comers in shares:
        if first_bad_comer(comers) is not None:
            raise BadShares(shares)
    return [told_comers(comers) for comers in shares]


def added_up(curves):
    """The sum of told curves."""
    found = straight(ZERO, ZERO)
    for curve in curves:
        found = together_with(found, curve, ONE)
    return found


def brought(bundle, shares):
    """The curve of how many are out by a moment if these comers come to the lanes."""
    lanes = told_lanes(bundle)
    streams = told_shares(lanes, shares)
    return added_up([came_out(lane, steps) for lane, steps in zip(lanes, streams)])


def let_through(lanes):
    """The curve of how many all lanes together can bring, from when they begin to be gone into."""
    return added_up([put_off(straight(ZERO, (room, 1)), (length, 1)) for length, room in lanes])


def begun_at(curve, moment, worth):
    """A curve that begins with 0, put off to a moment, and more by a worth throughout."""
    later = curve if moment == ZERO else put_off(curve, moment)
    return together_with(later, straight(worth, ZERO), ONE)


def most_of(lanes, came):
    """As most_out, of lanes and of the curve of how many came."""
    most = let_through(lanes)
    # The least of all sums is one at which either the comers or the lanes bend.
    bounds = [begun_at(most, moment, heap) for moment, heap in came[0]]
    for length, _ in lanes:
        bounds.append(begun_at(came, (length, 1), worth_of(most, (length, 1))))
    return lowest_of(bounds)


def most_out(bundle, comers):
    """The curve of how many can be out by a moment, whatever shares are made of the comers."""
    lanes = told_lanes(bundle)
    return most_of(lanes, heap_curve(told_comers(comers)))


def lane_ins(lanes, out):
    """The curves of how many go into each lane, if those who are out come by shorter lanes as far as there is room."""
    found = []
    ahead = ZERO
    for length, room in lanes:
        steps = [(ZERO, ZERO)]
        for moment, rate in steps_of(out):
            much = lesser(greater(minus(rate, ahead), ZERO), (room, 1))
            if is_less((length, 1), moment):
                steps.append((minus(moment, (length, 1)), much))
            else:
                steps[0] = (ZERO, much)
        found.append(heap_curve(told_comers(steps)))
        ahead = (ahead[0] + room, 1)
    return found


def among_first(part, whole):
    """The curve of how many of a part are among the first so many that go in of the whole."""
    corners = [(ZERO, ZERO)]
    for moment in merged(moments_of(part), moments_of(whole)):
        heap = worth_of(whole, moment)
        if heap != corners[-1][0]:
            corners.append((heap, worth_of(part, moment)))
    return tidied(corners, ZERO if whole[1] == ZERO else over(part[1], whole[1]))


def best_shares(bundle, comers):
    """Comers for each lane that bring the most by all moments at once."""
    lanes = told_lanes(bundle)
    came = heap_curve(told_comers(comers))
    parts = lane_ins(lanes, most_of(lanes, came))
    whole = added_up(parts)
    # Who comes goes in behind all who came ahead of it: so to each lane as many have come as go in.
    return [steps_of(after(among_first(part, whole), came)) for part in parts]
