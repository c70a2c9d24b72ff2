"""The slopes and goes of a table, found by letting the rate rise from 0 on.

How slopes and goes hang on the rate is straight as long as no road turns from one sort to
another one. So that just one road turns at a time, each road asks for a little more than it
should, and a little comes out at each place. All this is so little that roads turn as they
would without it; the table is told without it, and looked through.
"""

from quickbythen.equations import solved
from quickbythen.exact import ONE, ZERO, is_less, lowest, minus, negative, over, plus, times, total

# A road without goes, one whose end has the slope of its begin, one whose goes ask for its end's slope.
LOW = 0
MID = 1
HIGH = 2


def line_plus(one, other, factor):
    """One straight line, a worth at the rate 0 and a growth, and a factor times another one."""
    return (plus(one[0], times(other[0], factor)), plus(one[1], times(other[1], factor)))


def line_at(line, rate):
    """The worth of a straight line at a rate."""
    return plus(line[0], times(line[1], rate))


class Rising:
    """A stand, all of whose roads (one, other, room, is_waiting) have a sort, as the rate rises."""

    def __init__(self, places, roads, start, end):
        self.places = places
        self.roads = roads
        self.start = start
        self.end = end
        self.sorts = []
        self.nudges = []
        self.sheds = {}

    def begin(self, turn):
        """Take the little more, less and otherwise with each turn, and the sorts for the least rates."""
        size = 1 << (64 * turn)
        part = 1
        self.nudges = []
        for _ in self.roads:
            self.nudges.append(lowest(part, size))
            part = part * (turn + 1)
        part = 1
        self.sheds = {}
        for place in self.places:
            self.sheds[place] = lowest(part, size)
            part = part * (turn + 2)
        self.sheds[self.end] = ONE
        self.begin_sorts()

    def begin_sorts(self):
        """Take the sorts for the least rates: each place has the least slope that its roads ask for."""
        self.sorts = [HIGH if road[3] else LOW for road in self.roads]
        slopes = {self.start: ONE}
        while len(slopes) < len(self.places):
            for place in self.places:
                leading = [index for index, road in enumerate(self.roads) if road[1] == place]
                if place in slopes or not all([self.roads[index][0] in slopes for index in leading]):
                    continue
                least = leading[0]
                for index in leading:
                    if is_less(self.ask(slopes, index), self.ask(slopes, least)):
                        least = index
                slopes[place] = self.ask(slopes, least)
                if self.sorts[least] == LOW:
                    self.sorts[least] = MID

    def ask(self, slopes, index):
        """What a road asks for if nothing goes on it."""
        one, _, _, is_waiting = self.roads[index]
        if is_waiting:
            return ZERO
        return plus(slopes[one], self.nudges[index])

    def end_little(self):
        """Go on without the little more."""
        self.nudges = [ZERO for _ in self.roads]
        self.sheds = {place: ZERO for place in self.places}
        self.sheds[self.end] = ONE

    def rise(self, rate):
        """Turn road by road up to a rate; whether no two turned at once."""
        now = ZERO
        while True:
            turns = self.turns()
            first = None
            for turn in turns:
                if first is None or is_less(turn[0], first[0]):
                    first = turn
            if first is None or not is_less(first[0], rate):
                return True
            is_alone = len([turn for turn in turns if turn[0] == first[0]]) == 1
            if not is_alone or not is_less(now, first[0]):
                return False
            now = first[0]
            self.sorts[first[1]] = first[2]

    def turns(self):
        """The rates at which roads would turn, the roads, and the sorts to which they would."""
        return [(over(line[0], negative(line[1])), index, sort)
                for line, index, sort in self.bounds() if line[1][0] < 0]

    def bounds(self):
        """What stays from 0 on as long as a road is of its sort: a line, the road, and the sort behind that."""
        slopes, goes = self.lines()
        found = []
        for index, (one, other, room, is_waiting) in enumerate(self.roads):
            above = line_plus(slopes[other], slopes[one], (-1, 1))
            above = (minus(above[0], self.nudges[index]), above[1])
            if self.sorts[index] == LOW:
                found.append(((negative(above[0]), negative(above[1])), index, MID))
            elif self.sorts[index] == MID:
                asked = (times(slopes[other][0], (room, 1)), times(slopes[other][1], (room, 1)))
                found.append((goes[index], index, LOW))
                found.append((line_plus(asked, goes[index], (-1, 1)), index, HIGH))
            elif not is_waiting:
                found.append((above, index, MID))
        return found

    def is_right(self, rate):
        """Whether all roads are of their sort at a rate."""
        return all([line_at(line, rate)[0] >= 0 for line, _, _ in self.bounds()])

    def lines(self):
        """The dict of the slopes and the list of the goes, as straight lines by the rate."""
        roots, offsets = self.groups()
        slopes = self.slope_lines(roots, offsets)
        goes = [(ZERO, ZERO) for _ in self.roads]
        needs = {place: (ZERO, self.sheds[place]) for place in self.places}
        for index, (one, other, room, _) in enumerate(self.roads):
            if self.sorts[index] == HIGH:
                goes[index] = line_plus((ZERO, ZERO), slopes[other], (room, 1))
                needs[other] = line_plus(needs[other], goes[index], (-1, 1))
                needs[one] = line_plus(needs[one], goes[index], ONE)
        self.fill_middle(goes, needs)
        return (slopes, goes)

    def bound_to(self, place):
        """The places that MID roads bind to this one, and what their slopes are more."""
        found = []
        for index, (one, other, _, _) in enumerate(self.roads):
            if self.sorts[index] == MID and one == place:
                found.append((other, self.nudges[index]))
            if self.sorts[index] == MID and other == place:
                found.append((one, negative(self.nudges[index])))
        return found

    def groups(self):
        """By places, the first place of all that MID roads bind to it, and what its slope is more than that one's."""
        roots = {}
        offsets = {}
        for root in self.places:
            if root in roots:
                continue
            roots[root] = root
            offsets[root] = ZERO
            trail = [root]
            while trail:
                place = trail.pop()
                for far, step in self.bound_to(place):
                    if far not in roots:
                        roots[far] = root
                        offsets[far] = plus(offsets[place], step)
                        trail.append(far)
        return (roots, offsets)

    def slope_lines(self, roots, offsets):
        """The dict of the slopes as straight lines: in each group but the start's as much comes as leaves."""
        unknown = [place for place in self.places if roots[place] == place and place != self.start]
        found = solved([self.equation(root, roots, offsets, unknown) for root in unknown], len(unknown))
        known = {self.start: (ONE, ZERO)}
        for root, line in zip(unknown, found):
            known[root] = line
        return {place: (plus(known[roots[place]][0], offsets[place]), known[roots[place]][1]) for place in self.places}

    def equation(self, root, roots, offsets, unknown):
        """What comes to a group less what leaves it: factors of unknown slopes, then what that is, by the rate."""
        many = len(unknown)
        shed = total([self.sheds[place] for place in self.places if roots[place] == root])
        row = [ZERO for _ in unknown] + [ZERO, shed]
        for index, (one, other, room, _) in enumerate(self.roads):
            if self.sorts[index] != HIGH or (roots[one] == root) == (roots[other] == root):
                continue
            factor = (room, 1) if roots[other] == root else (-room, 1)
            known = offsets[other]
            if roots[other] in unknown:
                at = unknown.index(roots[other])
                row[at] = plus(row[at], factor)
            else:
                known = plus(known, ONE)
            row[many] = minus(row[many], times(known, factor))
        return row

    def fill_middle(self, goes, needs):
        """Write the goes of MID roads, which bring to each place what it still needs."""
        left = [index for index, sort in enumerate(self.sorts) if sort == MID]
        while left:
            ends = [place for index in left for place in self.roads[index][:2]]
            # MID roads lead round no ring: so somewhere one of them is the last one.
            last = [index for index in left if self.last_end(index, ends) is not None][0]
            one, other = self.roads[last][:2]
            if self.last_end(last, ends) == other:
                goes[last] = needs[other]
                needs[one] = line_plus(needs[one], needs[other], ONE)
            else:
                goes[last] = line_plus((ZERO, ZERO), needs[one], (-1, 1))
                needs[other] = line_plus(needs[other], needs[one], ONE)
            left.remove(last)

    def last_end(self, index, ends):
        """An end of a road, not the start, at which no other road that is left has an end, None if there is none."""
        for place in self.roads[index][:2]:
            if place != self.start and ends.count(place) == 1:
                return place
        return None
