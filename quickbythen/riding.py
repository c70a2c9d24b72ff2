"""Where one can be, and when, through the lines of a plan that is played out."""

from quickbythen.bends import after, out_by_line, piece_slope, slope_of, straight, worth_of
from quickbythen.exact import ONE, ZERO, is_less, minus, over, plus, times
from quickbythen.madecurves import lower_of
from quickbythen.playing import Play


def is_sooner(one, other):
    """Whether of two pairs of a moment and a slope the former tells less right behind a moment."""
    return is_less(one[0], other[0]) or (one[0] == other[0] and is_less(one[1], other[1]))


class Ride:
    """The roads of a net with the lines of a plan, known up to a moment."""

    def __init__(self, net, plan, until):
        self.play = Play(net, plan, until)
        self.start = net.start()
        self.end = net.end()
        self.until = until
        self.roads = net.roads()
        self.spans = [(road[0], road[1]) for road in self.roads]
        self.outs = {}

    def out_curve(self, number):
        """The curve of when who comes to a road's begin at a moment is at its end."""
        if number not in self.outs:
            _, _, length, room = self.roads[number]
            self.outs[number] = out_by_line(self.play.line_curve(number), length, room)
        return self.outs[number]

    def is_late(self, moment):
        """Whether a moment is behind what is known."""
        return is_less(self.until, moment)

    def out_at(self, number, moment):
        """When who comes to a road's begin at a moment is at its end."""
        return worth_of(self.out_curve(number), moment)

    def out_behind(self, number, behind):
        """The same right behind a moment: what is told there, and what it grows by a beat."""
        moment, slope = behind
        if slope != ZERO:
            slope = times(slope, slope_of(self.out_curve(number), moment))
        return (self.out_at(number, moment), slope)

    def stops(self, way, moment):
        """The moments at which one is at the start and at the end of each road, as far as they are known."""
        found = []
        now = moment
        for number in way:
            if self.is_late(now):
                return found
            found.append(now)
            now = self.out_at(number, now)
        if not self.is_late(now):
            found.append(now)
        return found

    def end_by(self, way, moment):
        """When one is at the end by a way, None if that is behind what is known."""
        found = self.stops(way, moment)
        if len(found) == len(way) + 1:
            return found[-1]
        return None

    def labels(self, moment):
        """The dict, ascending, from the places to the earliest moments at which one can be there."""
        found = {} if self.is_late(moment) else {self.start: moment}
        changed = list(found)
        while changed:
            later = []
            for number, (one, other) in enumerate(self.spans):
                if one not in changed:
                    continue
                out = self.out_at(number, found[one])
                if not self.is_late(out) and (other not in found or is_less(out, found[other])):
                    found[other] = out
                    later.append(other)
            changed = later
        return {place: found[place] for place in sorted(found)}

    def way_by(self, labels):
        """A way by which one is at the end at its label."""
        way = []
        place = self.end
        while place != self.start:
            way.append(self.road_to(place, labels))
            place = self.spans[way[-1]][0]
        return way[::-1]

    def road_to(self, place, labels):
        """The first road by which one is at a place at its label."""
        fitting = [number for number, (one, other) in enumerate(self.spans)
                   if other == place and one in labels and self.out_at(number, labels[one]) == labels[place]]
        return fitting[0]

    def way_behind(self, moment):
        """A way that is quickest right behind a moment, from which on one can be at the end by what is known."""
        found = {self.start: (moment, ONE)}
        last_road = {}
        changed = [self.start]
        while changed:
            later = []
            for number, (one, other) in enumerate(self.spans):
                if one not in changed or self.is_late(found[one][0]):
                    continue
                out = self.out_behind(number, found[one])
                if other not in found or is_sooner(out, found[other]):
                    found[other] = out
                    last_road[other] = number
                    later.append(other)
            changed = later
        way = [last_road[self.end]]
        while self.spans[way[-1]][0] != self.start:
            way.append(last_road[self.spans[way[-1]][0]])
        return way[::-1]

    def capped(self, curve):
        """The curve of the lesser one of a worth, which never falls, and of the moment up to which all is known."""
        corners = curve[0]
        many = len([worth for _, worth in corners if is_less(worth, self.until)])
        if many == 0:
            return straight(self.until, ZERO)
        moment, worth = corners[many - 1]
        slope = piece_slope(curve, many - 1)
        if slope == ZERO:
            return curve
        return (corners[:many] + [(plus(moment, over(minus(self.until, worth), slope)), self.until)], ZERO)

    def way_curve(self, way):
        """The curve, by the moment of setting out, of when one is at the end by a way, or of what is known."""
        curve = straight(ZERO, ONE)
        for number in way:
            curve = self.capped(after(self.out_curve(number), curve))
        return curve

    def label_curves(self):
        """The dict from the places that can be come to to the curves of their labels, or of what is known."""
        found = {self.start: self.capped(straight(ZERO, ONE))}
        changed = [self.start]
        while changed:
            later = []
            for number, (one, other) in enumerate(self.spans):
                if one not in changed:
                    continue
                curve = self.capped(after(self.out_curve(number), found[one]))
                if other in found:
                    curve = lower_of(found[other], curve)
                if other not in found or curve != found[other]:
                    found[other] = curve
                    later.append(other)
            changed = later
        return found
