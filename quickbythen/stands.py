"""Stands that are told already: which roads are quick and which wait, and the table for a rate."""

from quickbythen.checks import told_goes, told_worths
from quickbythen.exact import ONE, ZERO, greater, lesser, over, total
from quickbythen.kinds import is_pair
from quickbythen.rising import Rising, line_at


class Stand:
    """The quick roads of a net, some of them waiting, and the places that they lead to."""

    def __init__(self, net, quick, waiting):
        self.roads = net.roads()
        self.quick = quick
        self.waiting = waiting
        self.start = net.start()
        self.end = net.end()
        led_to = sorted(set([self.roads[number][1] for number in quick]))
        self.places = [self.start] + [place for place in led_to if place != self.start]

    def is_led(self):
        """Whether each quick road begins at a place of the stand, and they lead round no ring."""
        left = list(self.quick)
        if not all([self.roads[number][0] in self.places for number in left]):
            return False
        is_going = True
        while is_going:
            led_to = [self.roads[number][1] for number in left]
            following = [number for number in left if self.roads[number][0] in led_to]
            is_going = len(following) < len(left)
            left = following
        return len(left) == 0

    def table(self, rate):
        """A pair of slopes and goes for a rate."""
        roads = [(self.roads[number][0], self.roads[number][1], self.roads[number][3], number in self.waiting)
                 for number in self.quick]
        rising = Rising(self.places, roads, self.start, self.end)
        turn = 0
        is_found = False
        while not is_found:
            turn += 1
            rising.begin(turn)
            is_found = rising.rise(rate)
            if is_found:
                rising.end_little()
                is_found = rising.is_right(rate)
        slopes, goes = rising.lines()
        found = {number: line_at(line, rate) for number, line in zip(self.quick, goes)}
        return ({place: line_at(slopes[place], rate) for place in sorted(slopes)},
                {number: found[number] for number in found if found[number] != ZERO})

    def is_table(self, rate, thing):
        """Whether a thing is a table for a rate."""
        if not is_pair(thing):
            return False
        slopes = told_worths(thing[0])
        goes = told_goes(thing[1], len(self.roads))
        if slopes is None or goes is None or list(slopes) != sorted(self.places):
            return False
        if slopes[self.start] != ONE or not all([number in self.quick for number in goes]):
            return False
        return self.is_balanced(rate, goes) and self.is_asked(slopes, goes)

    def is_balanced(self, rate, goes):
        """Whether the rate leaves the start and comes to the end, and elsewhere as many leave as come."""
        for place in self.places + [self.end]:
            comes = total([goes[number] for number in goes if self.roads[number][1] == place])
            leaves = total([goes[number] for number in goes if self.roads[number][0] == place])
            if place == self.start:
                comes = rate
            if place == self.end:
                leaves = rate
            if comes != leaves:
                return False
        return True

    def is_asked(self, slopes, goes):
        """Whether each slope is the least that is asked for, and just what roads with goes ask for."""
        least = {}
        for number in self.quick:
            one, other, _, room = self.roads[number]
            asked = over(goes[number], (room, 1)) if number in goes else ZERO
            if number not in self.waiting:
                asked = greater(asked, slopes[one])
            if number in goes and asked != slopes[other]:
                return False
            least[other] = lesser(asked, least[other]) if other in least else asked
        return all([least[place] == slopes[place] for place in least])
