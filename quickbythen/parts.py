"""Schedules as trees of parts: rates for some beats, one behind another, again and again."""

from quickbythen.checks import told_comers
from quickbythen.exact import ZERO, is_less, lowest, minus, over, plus, times, total
from quickbythen.kinds import is_count, is_fraction, is_list, is_moment
from quickbythen.refusals import BadSchedule


def is_part(thing):
    """Whether a thing is a schedule."""
    left = [thing]
    while left:
        part = left.pop()
        if not is_list(part) or len(part) < 2:
            return False
        if part[0] == "rate" and len(part) == 3:
            if not (is_moment(part[1]) and is_fraction(part[2]) and part[2][0] > 0):
                return False
        elif part[0] == "behind" and len(part) == 2:
            if not is_list(part[1]) or len(part[1]) == 0:
                return False
            left = left + list(part[1])
        elif part[0] == "again" and len(part) == 3:
            if not is_count(part[1]):
                return False
            left.append(part[2])
        else:
            return False
    return True


class Part:
    """A schedule: how many beats it lasts, the heap that comes, and of what it is made."""

    def __init__(self, thing):
        self.word = thing[0]
        self.many = 1
        self.rate = ZERO
        self.inner = []
        if self.word == "rate":
            self.rate = lowest(thing[1][0], thing[1][1])
            self.beats = lowest(thing[2][0], thing[2][1])
            self.heap = times(self.rate, self.beats)
            rates = [self.rate]
        else:
            if self.word == "again":
                self.many = thing[1]
            self.inner = [Part(part) for part in (thing[1] if self.word == "behind" else [thing[2]])]
            self.beats = times((self.many, 1), total([part.beats for part in self.inner]))
            self.heap = times((self.many, 1), total([part.heap for part in self.inner]))
            rates = [part.steady for part in self.inner]
        # The only rate that ever comes, None if there are others.
        self.steady = rates[0] if rates == [rates[0] for _ in rates] else None

    def told(self):
        """The schedule as it is told."""
        if self.word == "rate":
            return ("rate", self.rate, self.beats)
        inner = [part.told() for part in self.inner]
        if self.word == "behind":
            return ("behind", inner)
        return ("again", self.many, inner[0])

    def run_at(self, moment):
        """The rate from a moment on, until when it comes at least, and what comes again and again around this moment.

        The latter are triples: a begin, an end, and how many beats it takes. The end is None behind the whole.
        """
        if not is_less(moment, self.beats):
            return (ZERO, None, [])
        part = self
        begin = ZERO
        around = []
        while part.steady is None:
            if part.word == "again":
                around.append((begin, plus(begin, part.beats), part.inner[0].beats))
            ahead, part = part.inner_at(minus(moment, begin))
            begin = plus(begin, ahead)
        return (part.steady, plus(begin, part.beats), around)

    def inner_at(self, beats):
        """How many beats behind the begin the part begins that goes on so many beats behind it, and that part."""
        ahead = ZERO
        if self.word == "again":
            turns = over(beats, self.inner[0].beats)
            return (times((turns[0] // turns[1], 1), self.inner[0].beats), self.inner[0])
        for part in self.inner:
            end = plus(ahead, part.beats)
            if is_less(beats, end):
                return (ahead, part)
            ahead = end
        return (ahead, self.inner[-1])


def told_part(schedule):
    """A schedule as a tree; BadSchedule for what is none."""
    if not is_part(schedule):
        raise BadSchedule(schedule)
    return Part(schedule)


def steps_in(part):
    """The told comers by which the same rate comes at all moments."""
    steps = []
    moment = ZERO
    while is_less(moment, part.beats):
        rate, end, _ = part.run_at(moment)
        steps.append((moment, rate))
        moment = end
    return told_comers(steps + [(part.beats, ZERO)])
