"""Wishes of when to be at a road's end, and when each drop comes there so that nobody gains."""

from quickbythen.bends import merged
from quickbythen.exact import ZERO, greater, is_less, lesser, lowest, minus, negative, over, plus, times, total
from quickbythen.kinds import is_count, is_fraction, is_list, is_moment, is_pair
from quickbythen.refusals import BadEarly, BadLate, BadLength, BadRoom, BadWishes, TooSoon


def told_wishes(wishes):
    """The pairs of moments and heaps; BadWishes for what are no wishes."""
    if not is_list(wishes) or len(wishes) == 0:
        raise BadWishes(0)
    found = []
    for index, wish in enumerate(wishes):
        if not (is_pair(wish) and is_moment(wish[0]) and is_fraction(wish[1]) and wish[1][0] > 0):
            raise BadWishes(index)
        moment = lowest(wish[0][0], wish[0][1])
        if found and not is_less(found[-1][0], moment):
            raise BadWishes(index)
        found.append((moment, lowest(wish[1][0], wish[1][1])))
    return found


class Wishing:
    """A road, wishes, and what it is worth to be early or late; the end is the road's end."""

    def __init__(self, room, length, wishes, early, late):
        if not is_count(room):
            raise BadRoom(room)
        if not is_count(length):
            raise BadLength(length)
        told = told_wishes(wishes)
        if not is_fraction(early) or not 0 < early[0] < early[1]:
            raise BadEarly(early)
        if not is_fraction(late) or late[0] <= 0:
            raise BadLate(late)
        self.room = (room, 1)
        self.length = (length, 1)
        self.early = lowest(early[0], early[1])
        self.late = lowest(late[0], late[1])
        self.moments = [moment for moment, _ in told]
        self.heaps = [heap for _, heap in told]
        self.beats = [over(heap, self.room) for heap in self.heaps]
        self.rows = self.all_rows()

    def early_from(self, index, begin):
        """How long those of a wish are early who come to the end one behind another from a moment on."""
        return lesser(greater(minus(self.moments[index], begin), ZERO), self.beats[index])

    def early_beats(self, row, begin):
        """The same of the wishes in a row, one behind another."""
        found = ZERO
        now = begin
        for index in row:
            found = plus(found, self.early_from(index, now))
            now = plus(now, self.beats[index])
        return found

    def begin_of(self, row):
        """The only moment from which on it is worth as much to be early in a row as to be late."""
        wanted = over(times(self.beats_of(row), self.late), plus(self.early, self.late))
        bends = []
        ahead = ZERO
        for index in row:
            begin = minus(self.moments[index], ahead)
            bends = merged(bends, [minus(begin, self.beats[index]), begin])
            ahead = plus(ahead, self.beats[index])
        # From the first of these on all are early, from the last one on all are late.
        at = 1
        while is_less(wanted, self.early_beats(row, bends[at])):
            at += 1
        more = minus(self.early_beats(row, bends[at - 1]), wanted)
        less = minus(self.early_beats(row, bends[at - 1]), self.early_beats(row, bends[at]))
        return plus(bends[at - 1], times(over(more, less), minus(bends[at], bends[at - 1])))

    def beats_of(self, row):
        """How long it takes until all wishes in a row have come to the end."""
        return total([self.beats[index] for index in row])

    def all_rows(self):
        """The pairs of a begin and the wishes, one behind another, that come from then on without a break."""
        found = []
        for index in range(len(self.moments)):
            row = [index]
            begin = self.begin_of(row)
            while found and not is_less(plus(found[-1][0], self.beats_of(found[-1][1])), begin):
                row = found.pop()[1] + row
                begin = self.begin_of(row)
            found.append((begin, row))
        return found

    def marks(self):
        """For each wish, when its first drop is at the end, the first that is not early, and all: pairs with waits."""
        found = []
        for begin, row in self.rows:
            now = begin
            wait = ZERO
            for index in row:
                ahead = self.early_from(index, now)
                turn = (plus(now, ahead), plus(wait, times(ahead, self.early)))
                late = minus(self.beats[index], ahead)
                last = (plus(turn[0], late), minus(turn[1], times(late, self.late)))
                found.append([(now, wait), turn, last])
                now, wait = last
        return found

    def check_soon(self):
        """TooSoon if the first drop would have to come below 0."""
        moment = minus(self.rows[0][0], self.length)
        if moment[0] < 0:
            raise TooSoon(moment)

    def strain_at(self, index, moment):
        """What it is worth to a drop of a wish that it is early, or late, at the end at a moment."""
        more = minus(moment, self.moments[index])
        if more[0] < 0:
            return times(negative(more), self.early)
        return times(more, self.late)

    def strain(self, index):
        """The curve of the same, from 0 on."""
        wish = self.moments[index]
        corners = [(wish, ZERO)]
        if wish != ZERO:
            corners = [(ZERO, self.strain_at(index, ZERO))] + corners
        return (corners, self.late)
