"""What the drops of one stream tell of the rooms of a bundle, as long as some bundle fits."""

from quickbythen.bends import merged, moments_of, slope_of, worth_of
from quickbythen.course import rate_from
from quickbythen.exact import ONE, ZERO, minus, over, plus


class RoomBounds:
    """How much room there is at least by some numbers, and at most by some, from the first lane's length on."""

    def __init__(self, first):
        self.first = first
        self.least = {first: 1}
        self.most = {first - 1: 0}

    def least_by(self, number):
        """How much there is at least by a number: what lesser numbers have it has, too."""
        return max([self.least[other] for other in self.least if other <= number] + [0])

    def most_by(self, number):
        """How much there is at most by a number, None if nothing tells it."""
        found = [self.most[other] for other in self.most if other >= number]
        if not found:
            return None
        return min(found)

    def told_up_to(self, last):
        """The triples of each number up to the last one, how much there is at least, and at most, by it."""
        found = []
        most = self.most_by(last + 1)
        for number in range(last, self.first - 1, -1):
            if number in self.most and (most is None or self.most[number] < most):
                most = self.most[number]
            found.append((number, self.least.get(number, 0), most))
        least = 0
        for index in range(len(found) - 1, -1, -1):
            number, room, most = found[index]
            least = max(least, room)
            found[index] = (number, least, most)
        return found[::-1]

    def take_least(self, number, room):
        """Take it that there is at least a room by a number; whether that can be."""
        most = self.most_by(number)
        if most is not None and most < room:
            return False
        self.least[number] = max(room, self.least.get(number, 0))
        return True

    def take_most(self, number, room):
        """Take it that there is at most a room by a number; whether that can be."""
        if room < self.least_by(number):
            return False
        self.most[number] = min(room, self.most.get(number, room))
        return True

    def take_just(self, number, room):
        """Take it that there is just a room by a number; whether that can be."""
        if self.least.get(number) == room and self.most.get(number) == room:
            return True
        return self.take_least(number, room) and self.take_most(number, room)

    def take_rest(self, number, rate):
        """Take it that a rate rests by a number: shorter lanes have no room for more, all up to it have enough."""
        lower = rate[0] // rate[1]
        upper = -(-rate[0] // rate[1])
        return self.take_most(number - 1, lower) and self.take_least(number, upper)

    def take_move(self, number, slope, rate):
        """Take it that between a number and the next one a rate lets through grow by a slope."""
        grows = plus(ONE, slope)
        if rate == ZERO:
            return grows == ZERO and number >= self.first
        if grows[0] <= 0:
            return False
        room = over(rate, grows)
        return room[1] == 1 and self.take_just(number, room[0])

    def end_for_ever(self, worth, slope):
        """A worth behind which who leaves a worth by a slope, for ever, meets nothing new."""
        if slope[0] < 0:
            return (self.first - 1, 1)
        return (max(list(self.least) + list(self.most) + [worth[0] // worth[1]]) + 1, 1)


def numbers_passed(worth, slope, end):
    """The pairs of each number, so that through is between it and the next one, and of how much later that begins."""
    lower = worth[0] // worth[1]
    upper = -(-worth[0] // worth[1])
    found = [(lower if slope[0] >= 0 else upper - 1, ZERO)]
    if slope[0] > 0:
        for number in range(lower + 1, -(-end[0] // end[1])):
            found.append((number, over(minus((number, 1), worth), slope)))
    if slope[0] < 0:
        # Going down, a number is begun at the next one.
        for less in range(1, upper - end[0] // end[1]):
            found.append((upper - 1 - less, over(minus((upper - less, 1), worth), slope)))
    return found


def first_misfit(bounds, steps, curve):
    """The first moment behind which no bundle has a curve, None if some has all of it; bounds take what it tells."""
    moments = merged(moments_of(curve), [begin for begin, _ in steps])
    for index, moment in enumerate(moments):
        worth = worth_of(curve, moment)
        slope = slope_of(curve, moment)
        rate = rate_from(steps, moment)
        if slope == ZERO and worth[1] == 1:
            if not bounds.take_rest(worth[0], rate):
                return moment
            continue
        end = bounds.end_for_ever(worth, slope)
        if index + 1 < len(moments):
            end = worth_of(curve, moments[index + 1])
        for number, beats in numbers_passed(worth, slope, end):
            if not bounds.take_move(number, slope, rate):
                return plus(moment, beats)
    return None
