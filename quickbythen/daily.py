"""The course of a net to which a day comes again and again."""

from quickbythen.course import course, course_to, excess, labels_then
from quickbythen.exact import ZERO, is_less, minus, over, plus, times
from quickbythen.kinds import is_number
from quickbythen.refusals import BadNumber


def told_number(number):
    """A number; BadNumber for what is none."""
    if not is_number(number):
        raise BadNumber(number)
    return number


def day_steps(day, many):
    """Told comers, as they come day by day, with so many changes that no more phases end ahead of the last one."""
    if day.steady is not None:
        return [(ZERO, day.steady)]
    steps = []
    begin = ZERO
    while len(steps) < many + 2:
        moment = ZERO
        while is_less(moment, day.beats) and len(steps) < many + 2:
            rate, end, _ = day.run_at(moment)
            if not steps or steps[-1][1] != rate:
                steps.append((plus(begin, moment), rate))
            moment = end
        begin = plus(begin, day.beats)
    return steps


def labels_reached(net, day, moment, many):
    """The labels for who sets out at a moment, None if the first so many phases do not reach it."""
    found = course_to(net, day_steps(day, many), many, moment)
    if found is None:
        return None
    return labels_then(found[-1], moment)


def begin_of(day, number):
    """When the day with a number begins."""
    return times((number, 1), day.beats)


def above(labels, moment):
    """What labels are above a moment, ascending."""
    return {place: minus(labels[place], moment) for place in sorted(labels)}


def last_number(found, day, number):
    """The greatest number up to the given one of a day at whose begin labels can be those of an earlier day.

    Where the course rests, labels above the begins stay from day to day or grow for ever.
    """
    if found[-1][4] is not None:
        return number
    days = over(found[-1][0], day.beats)
    return min(number, days[0] // days[1] + 2)


def first_again(net, day, number, many):
    """The least number, and days, so that labels at the begins of both days are alike, up to a number; or None."""
    found = course(net, day_steps(day, many), many, begin_of(day, number))
    seen = {}
    at = 0
    for turn in range(last_number(found, day, number) + 1):
        moment = begin_of(day, turn)
        while at < len(found) and found[at][4] is not None and is_less(found[at][4], moment):
            at += 1
        if at == len(found):
            return None
        labels = above(labels_then(found[at], moment), moment)
        key = tuple([labels[place] for place in labels])
        if key in seen:
            return (seen[key], turn - seen[key])
        seen[key] = turn
    return None


def labels_by_days(net, day, moment, again, many):
    """The labels for who sets out at a moment not reached, by what days repeat."""
    first, days = again
    begin = begin_of(day, first)
    turns = over(minus(moment, begin), begin_of(day, days))
    whole = times((turns[0] // turns[1], 1), begin_of(day, days))
    labels = labels_reached(net, day, minus(moment, whole), many)
    return {place: plus(labels[place], whole) for place in labels}


def lines_by(net, labels):
    """The dict, ascending, from the roads with a line, by labels, to the heaps in line."""
    found = {}
    for number, road in enumerate(net.roads()):
        if road[0] in labels:
            wait = excess(road, labels)
            if wait[0] > 0:
                found[number] = times(wait, (road[3], 1))
    return found
