"""The slopes and goes of a table, found by letting the rate rise from 0 on.

How slopes and goes hang on the rate is straight as long as no road turns from one sort to
another one. So that just one road turns at a time, each road asks for a little more than it
should, and a little comes out at each place. All this is so little that roads turn as they
would without it; the table is told without it, and looked through.

All is counted in integers: a straight line is what there is at the rate 0 and what it grows by
with the rate, two integers, each by a bottom and a unit that all lines share.
"""

from quickbythen.equations import solved
from quickbythen.exact import lowest

# A road without goes, one whose end has the slope of its begin, one whose goes ask for its end's slope.
LOW = 0
MID = 1
HIGH = 2


class Rising:
    """Roads (one, other, room, is_waiting) between so many places, the start being 0, as the rate rises."""

    def __init__(self, many, roads, end):
        self.many = many
        self.roads = roads
        self.end = end
        self.sorts = []
        self.unit = 1
        self.nudges = []
        self.sheds = []

    def begin(self, turn):
        """Take the little more, less and otherwise with each turn, and the sorts for the least rates."""
        self.unit = 1 << (64 * turn)
        self.nudges = [1] * len(self.roads)
        for index in range(1, len(self.roads)):
            self.nudges[index] = self.nudges[index - 1] * (turn + 1)
        self.sheds = [1] * self.many
        for place in range(1, self.many):
            self.sheds[place] = self.sheds[place - 1] * (turn + 2)
        self.begin_end()
        self.begin_sorts()

    def begin_end(self):
        """Let as much come out at the end as the rate is, if one can be there."""
        if self.end is not None:
            self.sheds[self.end] = self.unit

    def begin_sorts(self):
        """Take the sorts for the least rates: each place has the least slope that its roads ask for."""
        self.sorts = [HIGH if road[3] else LOW for road in self.roads]
        leading = [[] for _ in range(self.many)]
        for index, road in enumerate(self.roads):
            leading[road[1]].append(index)
        slopes = {0: self.unit}
        left = list(range(1, self.many))
        while left:
            for place in left:
                if all([self.roads[index][0] in slopes for index in leading[place]]):
                    asked = [self.ask(slopes, index) for index in leading[place]]
                    slopes[place] = min(asked)
                    least = leading[place][asked.index(slopes[place])]
                    if self.sorts[least] == LOW:
                        self.sorts[least] = MID
            left = [place for place in left if place not in slopes]

    def ask(self, slopes, index):
        """What a road asks for if nothing goes on it."""
        one, _, _, is_waiting = self.roads[index]
        if is_waiting:
            return 0
        return slopes[one] + self.nudges[index]

    def end_little(self):
        """Go on without the little more."""
        self.unit = 1
        self.nudges = [0] * len(self.roads)
        self.sheds = [0] * self.many
        self.begin_end()

    def rise(self, rate):
        """Turn road by road up to a rate; whether no two turned at once."""
        now = (0, 1)
        while True:
            first = None
            is_alone = True
            for top, growth, index, sort in self.bounds(self.lines(self.groups())):
                if growth >= 0:
                    continue
                if first is None or top * first[1] < -growth * first[0]:
                    first = (top, -growth, index, sort)
                    is_alone = True
                elif top * first[1] == -growth * first[0]:
                    is_alone = False
            if first is None or first[0] * rate[1] >= rate[0] * first[1]:
                return True
            if not is_alone or now[0] * first[1] >= first[0] * now[1]:
                return False
            now = first
            self.sorts[first[2]] = first[3]

    def bounds(self, lines):
        """What stays from 0 on as long as a road is of its sort: a line, the road, and the sort behind that."""
        bottom, firsts, growths, all_goes, all_grows = lines
        found = []
        for index, (one, other, room, is_waiting) in enumerate(self.roads):
            sort = self.sorts[index]
            if sort == MID:
                goes = all_goes[index]
                grows = all_grows[index]
                found.append((goes, grows, index, LOW))
                found.append((room * firsts[other] - goes, room * growths[other] - grows, index, HIGH))
            elif not is_waiting:
                more = firsts[other] - firsts[one] - self.nudges[index] * bottom
                growth = growths[other] - growths[one]
                found.append((-more, -growth, index, MID) if sort == LOW else (more, growth, index, MID))
        return found

    def told(self, rate):
        """The lists of the slopes and the goes at a rate without the little more, None if roads are of other sorts."""
        self.end_little()
        lines = self.lines(self.groups())
        top, under = rate
        for first, growth, _, _ in self.bounds(lines):
            if first * under + growth * top < 0:
                return None
        bottom, firsts, growths, goes, grows = lines
        bottom = bottom * under
        return ([lowest(first * under + growth * top, bottom) for first, growth in zip(firsts, growths)],
                [lowest(first * under + growth * top, bottom) for first, growth in zip(goes, grows)])

    def groups(self):
        """By places, the first place of all that MID roads bind to it, and what its slope is more than that one's.

        Behind these the triples of each other place, the MID road by which it is come to, and from where.
        """
        roots = list(range(self.many))
        offsets = [0] * self.many
        bound = []
        if MID not in self.sorts:
            return (roots, offsets, bound)
        near = [[] for _ in roots]
        for index, (one, other, _, _) in enumerate(self.roads):
            if self.sorts[index] == MID:
                near[one].append((other, index, self.nudges[index]))
                near[other].append((one, index, -self.nudges[index]))
        found = [False] * self.many
        for root in range(self.many):
            trail = [] if found[root] else [root]
            found[root] = True
            while trail:
                ahead = trail.pop()
                for place, index, step in near[ahead]:
                    if not found[place]:
                        found[place] = True
                        roots[place] = root
                        offsets[place] = offsets[ahead] + step
                        bound.append((place, index, ahead))
                        trail.append(place)
        return (roots, offsets, bound)

    def lines(self, groups):
        """The straight lines of all slopes and goes, as long as all roads are of their sorts.

        They are told as a bottom, and lists: slopes at the rate 0, what these grow by, goes and what these grow by.
        """
        roots, offsets, bound = groups
        bottom, firsts, growths = self.slope_lines(roots, offsets)
        goes = [0] * len(self.roads)
        grows = [0] * len(self.roads)
        needs = [0] * self.many
        grown = [bottom * shed for shed in self.sheds]
        for index, (one, other, room, _) in enumerate(self.roads):
            if self.sorts[index] == HIGH:
                much = room * firsts[other]
                growth = room * growths[other]
                goes[index] = much
                grows[index] = growth
                needs[other] -= much
                grown[other] -= growth
                needs[one] += much
                grown[one] += growth
        # What MID roads bring to each place is what it still needs, for itself and to send on to those behind it.
        for place, index, ahead in bound[::-1]:
            sign = 1 if self.roads[index][1] == place else -1
            goes[index] = sign * needs[place]
            grows[index] = sign * grown[place]
            needs[ahead] += needs[place]
            grown[ahead] += grown[place]
        return (bottom, firsts, growths, goes, grows)

    def slope_lines(self, roots, offsets):
        """The lines of all slopes, and their bottom: to each group but the start's as much comes as leaves."""
        unknown = [place for place in range(1, self.many) if roots[place] == place]
        if not unknown:
            return (1, [self.unit + offset for offset in offsets], [0] * self.many)
        bottom, sides = solved(self.equations(roots, offsets, unknown), len(unknown))
        tops = {0: (self.unit * bottom, 0)}
        for root, side in zip(unknown, sides):
            tops[root] = side
        firsts = [tops[root][0] + bottom * offset for root, offset in zip(roots, offsets)]
        return (bottom, firsts, [tops[root][1] for root in roots])

    def equations(self, roots, offsets, unknown):
        """For each unknown slope, what comes to its group less what leaves it: factors, then what that is."""
        many = len(unknown)
        rows = {root: [0] * (many + 2) for root in unknown}
        at = {root: place for place, root in enumerate(unknown)}
        for index, (one, other, room, _) in enumerate(self.roads):
            near = roots[one]
            far = roots[other]
            if self.sorts[index] != HIGH or near == far:
                continue
            known = room * offsets[other]
            if far == 0:
                known += room * self.unit
            else:
                rows[far][at[far]] += room
                rows[far][many] -= known
            if near != 0:
                rows[near][many] += known
                if far != 0:
                    rows[near][at[far]] -= room
        for place, shed in enumerate(self.sheds):
            if roots[place] != 0:
                rows[roots[place]][many + 1] += shed
        return [rows[root] for root in unknown]
