"""What must have come, from what is seen at a road's end."""

from quickbythen.bends import (first_positive, gap_between, last_corner, pieces_of, slope_of, steps_of, straight,
                               worth_of)
from quickbythen.checks import told_lane, told_moment
from quickbythen.curves import plain
from quickbythen.exact import ONE, ZERO, is_less, lowest, minus, plus, sooner, times
from quickbythen.kinds import is_list, is_moment, is_pair
from quickbythen.refusals import BadStories, NotOut, NotThrough


def check_out(lane, out):
    """NotOut for a told curve that is came_out of no comers."""
    length, room = lane
    if out[0][0][1] != ZERO:
        raise NotOut(ZERO)
    for moment, _, slope in pieces_of(out):
        is_ahead = is_less(moment, (length, 1))
        if slope[0] < 0 or is_less((room, 1), slope) or (is_ahead and slope != ZERO):
            raise NotOut(moment)


def comers_behind(road, out):
    """The comers without a line of whom so many are out."""
    lane = told_lane(road)
    seen = plain(out)
    check_out(lane, seen)
    length = (lane[0], 1)
    found = [(ZERO, slope_of(seen, length))]
    for moment, slope in steps_of(seen):
        if is_less(length, moment):
            found.append((minus(moment, length), slope))
    return found


def could_have_come(road, out, moment):
    """The least and the greatest heap that came by a moment, of all comers of whom so many are out."""
    lane = told_lane(road)
    seen = plain(out)
    then = plus(told_moment(moment), (lane[0], 1))
    check_out(lane, seen)
    least = worth_of(seen, then)
    index = last_corner(seen, then)
    corners = seen[0]
    # Only while as many come out as can may there be a line, and nobody sees how long it is.
    if corners[index][0] == then or slope_of(seen, then) != (lane[1], 1):
        return (least, least)
    if index + 1 == len(corners):
        return (least, None)
    return (least, corners[index + 1][1])


def comers_through(road, curve):
    """Comers of which a curve tells when they are out."""
    length, room = told_lane(road)
    when = plain(curve)
    if when[0][0][1] != (length, 1):
        raise NotThrough(ZERO)
    bad = first_positive(gap_between(straight((length, 1), ONE), when))
    for moment, slope in steps_of(when):
        if slope[0] < 0:
            bad = sooner(bad, moment)
    if bad is not None:
        raise NotThrough(bad)
    return [(moment, times(slope, (room, 1))) for moment, slope in steps_of(when)]


def told_stories(stories):
    """The list of stories in lowest terms; BadStories for what is none."""
    if not is_list(stories):
        raise BadStories(0)
    found = []
    for index, story in enumerate(stories):
        if not (is_pair(story) and is_moment(story[0]) and is_moment(story[1])):
            raise BadStories(index)
        found.append((lowest(story[0][0], story[0][1]), lowest(story[1][0], story[1][1])))
    return found


def is_alone_wrong(length, story):
    """Whether no comers at all fit one story."""
    came, out = story
    soonest = plus(came, length)
    return is_less(out, soonest) or (came == ZERO and out != soonest)


def is_overtaking(one, other):
    """Whether of two stories that of one came no later and is out later."""
    return not is_less(other[0], one[0]) and is_less(other[1], one[1])


def first_clash(length, told):
    """As clash, of told stories."""
    for index, story in enumerate(told):
        if is_alone_wrong(length, story):
            return [index]
    for index, story in enumerate(told):
        for later in range(index + 1, len(told)):
            if is_overtaking(story, told[later]) or is_overtaking(told[later], story):
                return [index, later]
    return None


def clash(road, stories):
    """The indexes of one or two stories that no comers fit, None if some comers fit all."""
    lane = told_lane(road)
    return first_clash((lane[0], 1), told_stories(stories))


def fitting_comers(road, stories):
    """Comers that fit all stories, None if there are none."""
    lane = told_lane(road)
    told = told_stories(stories)
    length = (lane[0], 1)
    if first_clash(length, told) is not None:
        return None
    corners = [(ZERO, length)]
    for came, out in told:
        corners = with_corner(corners, came, out)
    return comers_through(lane, (corners, ONE))


def with_corner(corners, moment, worth):
    """Rising corners and one more, unless there is one at this moment."""
    ahead = [corner for corner in corners if is_less(corner[0], moment)]
    following = [corner for corner in corners if is_less(moment, corner[0])]
    return ahead + [(moment, worth)] + following
