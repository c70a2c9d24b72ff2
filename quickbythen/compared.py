"""Two courses beside one another: who is earlier at the end, who later, and by how much."""

from quickbythen.bends import crossings, gap_between, merged, moments_of, slope_of, worth_of
from quickbythen.checks import told_comers, told_many, told_moment
from quickbythen.course import course, label_bends, rate_from
from quickbythen.curves import area
from quickbythen.exact import ZERO, greater, is_less, plus, sooner, times


def known_until(net, comers, many):
    """When the last one of the first so many phases ends, None if the course rests in one of them."""
    steps = told_comers(comers)
    number = told_many(many)
    return course(net, steps, number, None)[-1][4]


def word_for(gap):
    """The word for a number with the sign of how much later one is."""
    if gap[0] == 0:
        return "alike"
    return "later" if gap[0] > 0 else "earlier"


def word_at(gap, moment):
    """The word for a moment, by the curve of how much later one is."""
    return word_for(worth_of(gap, moment))


def word_behind(gap, moment):
    """The word for right behind a moment."""
    if worth_of(gap, moment) == ZERO:
        return word_for(slope_of(gap, moment))
    return word_at(gap, moment)


def stretches_of(gap, until):
    """The stretches (begin, end, word) up to a moment, for ever if it is None."""
    found = []
    for moment in merged(moments_of(gap), crossings(gap)):
        if until is not None and not is_less(moment, until):
            continue
        word = word_behind(gap, moment)
        begin = moment
        if found and found[-1][2] == word and word_at(gap, moment) == word:
            begin = found.pop()[0]
        elif found:
            found[-1] = (found[-1][0], moment, found[-1][2])
        found.append((begin, until, word))
    return found


def both_courses(one, steps, other, others, number):
    """The courses of two nets for told comers; NoWay if one of both has no way."""
    return (course(one, steps, number, None), course(other, others, number, None))


def how_later(one, first, other, second):
    """The curve of how much later one is at the end of other than at that of one."""
    return gap_between(label_bends(second, other.end()), label_bends(first, one.end()))


def stretches_by(one, first, other, second):
    """As compared, by the courses of both nets."""
    until = first[-1][4]
    if second[-1][4] is not None:
        until = sooner(until, second[-1][4])
    return stretches_of(how_later(one, first, other, second), until)


def stretches_between(one, steps, other, others, number):
    """As compared, of told comers."""
    first, second = both_courses(one, steps, other, others, number)
    return stretches_by(one, first, other, second)


def compared(one, comers, other, others, many):
    """The stretches, as long as can be, in which who sets out is earlier, alike or later at the end of other."""
    steps = told_comers(comers)
    more = told_comers(others)
    number = told_many(many)
    return stretches_between(one, steps, other, more, number)


def first_later(one, comers, other, others, many):
    """The first moment behind which who sets out is later at the end of other, None if nobody is."""
    steps = told_comers(comers)
    more = told_comers(others)
    number = told_many(many)
    for begin, _, word in stretches_between(one, steps, other, more, number):
        if word == "later":
            return begin
    return None


def saved(one, other, comers, moment, many):
    """How many beats all save together in other who set out ahead of a moment, None if that is not known."""
    steps = told_comers(comers)
    then = told_moment(moment)
    number = told_many(many)
    first, second = both_courses(one, steps, other, steps, number)
    for end in (first[-1][4], second[-1][4]):
        if end is not None and is_less(end, then):
            return None
    sooner_by = how_later(other, second, one, first)
    beats = ZERO
    ends = [begin for begin, _ in steps[1:]] + [then]
    for (begin, rate), end in zip(steps, ends):
        beats = plus(beats, times(rate, area(sooner_by, begin, sooner(end, then))))
    return beats


def for_ever(one, comers, other, others, many):
    """From when on both courses rest, how much later one is in other then, and by how much more each beat; or None."""
    steps = told_comers(comers)
    more = told_comers(others)
    number = told_many(many)
    first, second = both_courses(one, steps, other, more, number)
    if first[-1][4] is not None or second[-1][4] is not None:
        return None
    moment = greater(first[-1][0], second[-1][0])
    gap = how_later(one, first, other, second)
    return (moment, worth_of(gap, moment), slope_of(gap, moment))


def same_until(comers, others):
    """The first moment at which the rates part, None if they never do."""
    steps = told_comers(comers)
    more = told_comers(others)
    for moment in merged([begin for begin, _ in steps], [begin for begin, _ in more]):
        if rate_from(steps, moment) != rate_from(more, moment):
            return moment
    return None
