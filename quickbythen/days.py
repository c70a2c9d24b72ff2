"""Days that come again and again: labels at their begins, what they leave over, and pauses behind them."""

from quickbythen.checks import told_many, told_moment
from quickbythen.course import course, labels_then
from quickbythen.daily import (above, begin_of, first_again, labels_by_days, labels_reached, lines_by, told_number)
from quickbythen.exact import is_less, minus
from quickbythen.parts import steps_in, told_part
from quickbythen.phases import check_place


def day_labels(net, day, number, many):
    """What labels are above the begin of the day with a number, for who sets out then; None if it is not reached."""
    part = told_part(day)
    moment = begin_of(part, told_number(number))
    labels = labels_reached(net, part, moment, told_many(many))
    if labels is None:
        return None
    return above(labels, moment)


def day_again(net, day, number, many):
    """From which day on, and with how many days, all repeats itself, up to the day with a number; or None."""
    part = told_part(day)
    most = told_number(number)
    return first_again(net, part, most, told_many(many))


def label_by_day(net, day, place, moment, number, many):
    """The label of a place for who sets out at a moment, by phases or by days that repeat themselves; or None."""
    part = told_part(day)
    check_place(net, place)
    then = told_moment(moment)
    most = told_number(number)
    phases = told_many(many)
    labels = labels_reached(net, part, then, phases)
    if labels is None:
        again = first_again(net, part, most, phases)
        if again is None:
            return None
        labels = labels_by_days(net, part, then, again, phases)
    return labels[place]


def left_over(net, day, many):
    """The lines that who sets out at the end of the first day finds, None if that is not reached."""
    part = told_part(day)
    labels = labels_reached(net, part, part.beats, told_many(many))
    if labels is None:
        return None
    return lines_by(net, labels)


def pause_for(net, day, many):
    """The least pause behind a day with which nothing is left over, None if its course rests in none of the phases."""
    part = told_part(day)
    found = course(net, steps_in(part), told_many(many), None)
    if found[-1][4] is not None:
        return None
    for phase in found:
        moment = phase[0]
        if phase[4] is not None and not is_less(part.beats, phase[4]):
            continue
        if is_less(moment, part.beats):
            moment = part.beats
        if not lines_by(net, labels_then(phase, moment)):
            return minus(moment, part.beats)
    return None
