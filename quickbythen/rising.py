"""The slopes and goes of a table, found by letting the rate rise from 0 on.

How slopes and goes hang on the rate is straight as long as no road turns from one sort to
another one. So that just one road turns at a time, each road asks for a little more than it
should, and a little comes out at each place. All this is so little that roads turn as they
would without it; the table is told without it, and looked through.
"""

from quickbythen.equations import solved
from quickbythen.exact import ONE, ZERO, is_less, lowest, minus, negative, over, plus, times

# A road without goes, one whose end has the slope of its begin, one whose goes ask for its end's slope.
LOW = 0
MID = 1
HIGH = 2


def line_plus(one, other, factor):
    """One straight line, a worth at the rate 0 and a growth, and a factor times another one."""
    return (plus(one[0], times(other[0], factor)), plus(one[1], times(other[1], factor)))


def line_at(line, rate):
    """The worth of a straight line at a rate."""
    return plus(line[0], times(line[1], rate))


class Rising:
    """A stand, all of whose roads (one, other, room, is_waiting) have a sort, as the rate rises."""

    def __init__(self, places, roads, start, end):
        self.places = places
        self.roads = roads
        self.start = start
        self.end = end
        self.sorts = []
        self.nudges = []
        self.sheds = {}

    def begin(self, turn):
        """Take the little more, less and otherwise with each turn, and the sorts for the least rates."""
        size = 1 << (64 * turn)
        part = 1
        self.nudges = []
        for _ in self.roads:
            self.nudges.append(lowest(part, size))
            part = part * (turn + 1)
        part = 1
        self.sheds = {}
        for place in self.places:
            self.sheds[place] = lowest(part, size)
            part = part * (turn + 2)
        self.sheds[self.end] = ONE
        self.begin_sorts()

    def begin_sorts(self):
        """Take the sorts for the least rates: each place has the least slope that its roads ask for."""
        self.sorts = [HIGH if road[3] else LOW for road in self.roads]
        slopes = {self.start: ONE}
        while len(slopes) < len(self.places):
            for place in self.places:
                asked = [(ZERO if road[3] else self.ask(slopes, index), index)
                         for index, road in enumerate(self.roads) if road[1] == place and road[0] in slopes]
                is_known = len(asked) == len([road for road in self.roads if road[1] == place])
                if place in slopes or not is_known:
                    continue
                least = asked[0]
                for ask in asked:
                    if is_less(ask[0], least[0]):
                        least = ask
                slopes[place] = least[0]
                if self.sorts[least[1]] == LOW:
                    self.sorts[least[1]] = MID

    def ask(self, slopes, index):
        """What a road asks for if nothing goes on it."""
        return plus(slopes[self.roads[index][0]], self.nudges[index])

    def end_little(self):
        """Go on without the little more."""
        self.nudges = [ZERO for _ in self.roads]
        self.sheds = {place: ZERO for place in self.places}
        self.sheds[self.end] = ONE

    def rise(self, rate):
        """Turn road by road up to a rate; whether no two turned at once."""
        now = ZERO
        while True:
            first = None
            is_alone = True
            for line, index, sort in self.bounds():
                if line[1][0] >= 0:
                    continue
                moment = over(line[0], negative(line[1]))
                if first is None or is_less(moment, first[0]):
                    first = (moment, index, sort)
                    is_alone = True
                elif moment == first[0]:
                    is_alone = False
            if first is None or not is_less(first[0], rate):
                return True
            if not is_alone or not is_less(now, first[0]):
                return False
            now = first[0]
            self.sorts[first[1]] = first[2]

    def bounds(self):
        """What stays from 0 on as long as a road is of its sort: a line, the road, and the sort behind that."""
        slopes, goes = self.lines()
        found = []
        for index, (one, other, room, is_waiting) in enumerate(self.roads):
            above = line_plus(slopes[other], slopes[one], (-1, 1))
            above = (minus(above[0], self.nudges[index]), above[1])
            if self.sorts[index] == LOW:
                found.append(((negative(above[0]), negative(above[1])), index, MID))
            elif self.sorts[index] == MID:
                asked = (times(slopes[other][0], (room, 1)), times(slopes[other][1], (room, 1)))
                found.append((goes[index], index, LOW))
                found.append((line_plus(asked, goes[index], (-1, 1)), index, HIGH))
            elif not is_waiting:
                found.append((above, index, MID))
        return found

    def is_right(self, rate):
        """Whether all roads are of their sort at a rate."""
        return all([line_at(line, rate)[0] >= 0 for line, _, _ in self.bounds()])

    def lines(self):
        """The dict of the slopes and the list of the goes, as straight lines by the rate."""
        roots, offsets = self.groups()
        slopes = self.slope_lines(roots, offsets)
        goes = [(ZERO, ZERO) for _ in self.roads]
        needs = {place: (ZERO, self.sheds[place]) for place in self.places}
        for index, (one, other, room, _) in enumerate(self.roads):
            if self.sorts[index] == HIGH:
                goes[index] = line_plus((ZERO, ZERO), slopes[other], (room, 1))
                needs[other] = line_plus(needs[other], goes[index], (-1, 1))
                needs[one] = line_plus(needs[one], goes[index], ONE)
        self.fill_middle(goes, needs)
        return (slopes, goes)

    def groups(self):
        """By places, the first place of all that MID roads bind to it, and what its slope is more than that one's."""
        roots = {}
        offsets = {}
        for root in self.places:
            if root in roots:
                continue
            roots[root] = root
            offsets[root] = ZERO
            trail = [root]
            while trail:
                place = trail.pop()
                for index, (one, other, _, _) in enumerate(self.roads):
                    if self.sorts[index] != MID or place not in (one, other):
                        continue
                    far = other if place == one else one
                    if far not in roots:
                        roots[far] = root
                        step = self.nudges[index] if far == other else negative(self.nudges[index])
                        offsets[far] = plus(offsets[place], step)
                        trail.append(far)
        return (roots, offsets)

    def slope_lines(self, roots, offsets):
        """The dict of the slopes as straight lines: in each group but the start's as much comes as leaves."""
        unknown = [place for place in self.places if roots[place] == place and place != self.start]
        many = len(unknown)
        at = {place: unknown.index(roots[place]) for place in self.places if roots[place] != self.start}
        rows = [[ZERO for _ in range(many + 2)] for _ in unknown]
        for place in at:
            rows[at[place]][many + 1] = plus(rows[at[place]][many + 1], self.sheds[place])
        for index, (one, other, room, _) in enumerate(self.roads):
            if self.sorts[index] != HIGH or roots[one] == roots[other]:
                continue
            for place, factor in ((other, (room, 1)), (one, (-room, 1))):
                if place in at:
                    row = rows[at[place]]
                    known = offsets[other]
                    if other in at:
                        row[at[other]] = plus(row[at[other]], factor)
                    else:
                        known = plus(known, ONE)
                    row[many] = minus(row[many], times(known, factor))
        found = solved(rows, many)
        slopes = {}
        for place in self.places:
            root = found[at[place]] if place in at else [ONE, ZERO]
            slopes[place] = (plus(root[0], offsets[place]), root[1])
        return slopes

    def fill_middle(self, goes, needs):
        """Write the goes of MID roads, which bring to each place what it still needs."""
        left = [index for index, sort in enumerate(self.sorts) if sort == MID]
        while left:
            ends = [place for index in left for place in self.roads[index][:2]]
            # MID roads lead round no ring: so somewhere one of them is the last one.
            index = [index for index in left if self.last_end(index, ends) is not None][0]
            one, other = self.roads[index][:2]
            if self.last_end(index, ends) == other:
                goes[index] = needs[other]
                needs[one] = line_plus(needs[one], needs[other], ONE)
            else:
                goes[index] = line_plus((ZERO, ZERO), needs[one], (-1, 1))
                needs[other] = line_plus(needs[other], needs[one], ONE)
            left.remove(index)

    def last_end(self, index, ends):
        """An end of a road, not the start, at which no other road that is left has an end, None if there is none."""
        for place in self.roads[index][:2]:
            if place != self.start and ends.count(place) == 1:
                return place
        return None
