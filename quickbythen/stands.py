"""Stands that are told already: which roads are quick and which wait, and the table for a rate."""

from quickbythen.checks import told_goes, told_worths
from quickbythen.exact import ONE, ZERO, greater, minus, over, plus
from quickbythen.kinds import is_pair
from quickbythen.rising import Rising


class Stand:
    """The quick roads of a net, some of them waiting, and the places that they lead to."""

    def __init__(self, net, quick, waiting):
        self.roads = net.roads()
        self.quick = quick
        self.waiting = waiting
        self.start = net.start()
        self.end = net.end()
        led_to = sorted(set([self.roads[number][1] for number in quick]))
        self.places = [self.start] + [place for place in led_to if place != self.start]

    def is_led(self):
        """Whether each quick road begins at a place of the stand, and they lead round no ring."""
        left = list(self.quick)
        if not all([self.roads[number][0] in self.places for number in left]):
            return False
        is_going = True
        while is_going:
            led_to = [self.roads[number][1] for number in left]
            following = [number for number in left if self.roads[number][0] in led_to]
            is_going = len(following) < len(left)
            left = following
        return len(left) == 0

    def table(self, rate):
        """A pair of slopes and goes for a rate."""
        if len(self.quick) < len(self.places):
            return self.only_table(rate)
        at = {place: index for index, place in enumerate(self.places)}
        roads = []
        for number in self.quick:
            one, other, _, room = self.roads[number]
            roads.append((at[one], at[other], room, number in self.waiting))
        rising = Rising(len(at), roads, at.get(self.end))
        turn = 0
        found = None
        while found is None:
            turn += 1
            rising.begin(turn)
            if rising.rise(rate):
                found = rising.told(rate)
        slopes, goes = found
        return ({place: slopes[at[place]] for place in sorted(at)},
                {number: much for number, much in zip(self.quick, goes) if much != ZERO})

    def only_table(self, rate):
        """The same where just one road leads to each place but the start, so that all goes one way."""
        into = {self.roads[number][1]: number for number in self.quick}
        way = []
        place = self.end
        while rate != ZERO and place != self.start:
            way.append(into[place])
            place = self.roads[into[place]][0]
        slopes = {self.start: ONE}
        left = self.quick
        while left:
            for number in left:
                one, other, _, room = self.roads[number]
                if one in slopes:
                    asked = over(rate, (room, 1)) if number in way else ZERO
                    slopes[other] = asked if number in self.waiting else greater(asked, slopes[one])
            left = [number for number in left if self.roads[number][1] not in slopes]
        return ({place: slopes[place] for place in sorted(slopes)},
                {number: rate for number in self.quick if number in way})

    def slopes_in(self, rate, thing):
        """The slopes, told, of the table for a rate that a thing is, None if it is none."""
        if not is_pair(thing):
            return None
        slopes = told_worths(thing[0])
        goes = told_goes(thing[1], len(self.roads))
        if slopes is None or goes is None or list(slopes) != sorted(self.places):
            return None
        if slopes[self.start] != ONE or not all([number in self.quick for number in goes]):
            return None
        if not self.is_balanced(rate, goes) or not self.is_asked(slopes, goes):
            return None
        return slopes

    def is_balanced(self, rate, goes):
        """Whether the rate leaves the start and comes to the end, and elsewhere as many leave as come."""
        more = {place: ZERO for place in self.places}
        more[self.start] = rate
        more[self.end] = minus(more.get(self.end, ZERO), rate)
        for number in goes:
            one, other, _, _ = self.roads[number]
            more[one] = minus(more[one], goes[number])
            more[other] = plus(more[other], goes[number])
        return all([more[place] == ZERO for place in more])

    def is_asked(self, slopes, goes):
        """Whether each slope is the least that is asked for, and just what roads with goes ask for."""
        asked_for = {self.start: True}
        for number in self.quick:
            one, other, _, room = self.roads[number]
            top, bottom = goes.get(number, ZERO)
            bottom = bottom * room
            near_top, near_bottom = slopes[one]
            if number not in self.waiting and top * near_bottom < near_top * bottom:
                top, bottom = slopes[one]
            far_top, far_bottom = slopes[other]
            more = top * far_bottom - far_top * bottom
            if more < 0 or (more > 0 and number in goes):
                return False
            if more == 0:
                asked_for[other] = True
        return len(asked_for) == len(slopes)
