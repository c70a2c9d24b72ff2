"""A resting table, level by level, the greatest slope first."""

from quickbythen.cuts import some_goes
from quickbythen.exact import ONE, ZERO, over, plus, times, total
from quickbythen.nets import shortest
from quickbythen.pushing import Pushing


class Resting:
    """The places that have no slope yet, the start among them, and how much each needs, for itself and to send on."""

    def __init__(self, net, rate):
        self.roads = net.roads()
        self.start = net.start()
        self.sink = net.places()
        self.places = list(shortest(net))
        self.needs = {place: ZERO for place in self.places}
        self.needs[net.end()] = rate
        self.slopes = {}
        self.goes = [ZERO for _ in self.roads]

    def inner_roads(self):
        """The numbers of the roads between places that have no slope yet."""
        return [number for number, road in enumerate(self.roads)
                if road[0] in self.places and road[1] in self.places]

    def pushing_at(self, inner, slope):
        """What is needed, as far as it can be pushed if on each inner road at most its room times a slope goes."""
        arcs = [(self.roads[number][0], self.roads[number][1], times((self.roads[number][3], 1), slope))
                for number in inner]
        pushing = Pushing(arcs + [(place, self.sink, self.needs[place]) for place in self.places])
        pushing.push(self.start, self.sink, None)
        return pushing

    def slope_across(self, inner, far):
        """The slope with which as much goes to places as they need together."""
        rooms = [self.roads[number][3] for number in inner
                 if self.roads[number][0] not in far and self.roads[number][1] in far]
        return over(total([self.needs[place] for place in far]), (sum(rooms), 1))

    def give_level(self):
        """Give their slope to the places that have the greatest one of those that are left."""
        inner = self.inner_roads()
        slope = ONE
        pushing = self.pushing_at(inner, slope)
        wanted = total([self.needs[place] for place in self.places])
        while total(pushing.goes[len(inner):]) != wanted:
            near = pushing.trails_from(self.start)
            slope = self.slope_across(inner, [place for place in self.places if place not in near])
            pushing = self.pushing_at(inner, slope)
        near = [] if slope == ONE else pushing.trails_from(self.start)
        pushed = list(pushing.goes)
        for number, much in zip(inner, pushed):
            one, other = self.roads[number][:2]
            if other not in near:
                self.goes[number] = much
                if one in near:
                    self.needs[one] = plus(self.needs[one], much)
        for place in self.places:
            if place not in near:
                self.slopes[place] = slope
        self.places = [place for place in self.places if place in near]


def rested_table(net, rate):
    """The slopes and the goes of a resting table for a told rate."""
    rested = Resting(net, rate)
    while rested.places:
        rested.give_level()
    return ({place: rested.slopes[place] for place in sorted(rested.slopes)}, some_goes(rested.goes))
