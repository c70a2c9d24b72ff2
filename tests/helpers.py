"""What the tests share: exact worths by Python's own fractions, samples, odd objects."""

import random
from fractions import Fraction
from math import gcd

from quickbythen.nets import Net

ZERO_CURVE = ([((0, 1), (0, 1))], (0, 1))
N = Net(4, [(0, 1, 1, 2), (0, 2, 3, 3), (1, 2, 1, 2), (1, 3, 4, 1), (2, 3, 1, 2)], 0, 3)

# Things of all the kinds that "any object" means; none of them is a fraction, a list of such, a curve ..
ODD = [0, 1, -1, 7, True, False, None, "", "a", "ab", (), [], {}, {0: 1}, {1: (0, 1)}, len, lambda: 0, N, Net,
       [[]], [()], ["ab"], [None], [0, 0], (0,), [1, 2, 3], (None, 1), ("a", 1), ([], 1), ((0, 1), (1, 0)), "01"]
NO_FRACTIONS = [thing for thing in ODD if thing != [0, 1]] + [
    (1, 0), (1, -1), (True, 1), (1, True), (False, 2), (1, None), ("1", 1), (1, 2, 3), (1,), {1: 2, 3: 4}, (1.0, 1)]
NO_MOMENTS = NO_FRACTIONS + [(-1, 1), [-5, 3], (-1, 10 ** 30)]
NO_INTEGERS = [True, False, None, "1", (), [], {}, (1, 1), len, N, 1.0]


def frac(pair):
    """A passed or told fraction as Python's own."""
    return Fraction(pair[0], pair[1])


def pair(number):
    """A number as a told fraction."""
    number = Fraction(number)
    return (number.numerator, number.denominator)


def curve(corners, slope):
    """A curve from plain numbers."""
    return ([(pair(moment), pair(worth)) for moment, worth in corners], pair(slope))


def comers(*steps):
    """Comers from plain numbers."""
    return [(pair(moment), pair(rate)) for moment, rate in steps]


def worth(thing, moment):
    """The worth of a curve, told or passed, at a moment, by the words of 4.1."""
    corners = [(frac(one), frac(other)) for one, other in thing[0]]
    for (begin, first), (end, second) in zip(corners, corners[1:]):
        if begin <= moment <= end:
            return first + (second - first) * (moment - begin) / (end - begin)
    return corners[-1][1] + frac(thing[1]) * (moment - corners[-1][0])


def slope_behind(thing, moment):
    """What a curve grows by a beat right behind a moment."""
    ahead = [frac(corner[0]) for corner in thing[0] if frac(corner[0]) > moment]
    end = min(ahead) if ahead else moment + 1
    return (worth(thing, end) - worth(thing, moment)) / (end - moment)


def heap(steps, moment):
    """The heap that came ahead of a moment, by the words of 3.2."""
    found = Fraction(0)
    for index, (begin, rate) in enumerate(steps):
        end = frac(steps[index + 1][0]) if index + 1 < len(steps) else moment
        found += frac(rate) * max(0, min(end, moment) - frac(begin))
    return found


def moments_in(*curves):
    """Moments at, between and behind all corners of some curves."""
    found = sorted({frac(corner[0]) for one in curves for corner in one[0]})
    between = [(one + other) / 2 for one, other in zip(found, found[1:])]
    thirds = [(2 * one + other) / 3 for one, other in zip(found, found[1:])]
    last = found[-1]
    return sorted(found + between + thirds + [last + Fraction(1, 7), last + 1, last + 13, last + 1000])


def is_lowest(thing):
    """Whether a thing is a told fraction."""
    return (type(thing) is tuple and len(thing) == 2 and type(thing[0]) is int and type(thing[1]) is int
            and thing[1] >= 1 and gcd(thing[0], thing[1]) == 1)


def check_told_curve(case, thing):
    """That a curve is told as 2.1, 2.4 and 4.1 tell."""
    case.assertIs(type(thing), tuple)
    corners, slope = thing
    case.assertIs(type(corners), list)
    case.assertTrue(is_lowest(slope))
    case.assertEqual(corners[0][0], (0, 1))
    for corner in corners:
        case.assertIs(type(corner), tuple)
        case.assertTrue(len(corner) == 2 and is_lowest(corner[0]) and is_lowest(corner[1]))
    slopes = []
    for (begin, first), (end, second) in zip(corners, corners[1:]):
        case.assertLess(frac(begin), frac(end))
        slopes.append((frac(second) - frac(first)) / (frac(end) - frac(begin)))
    slopes.append(frac(slope))
    for one, other in zip(slopes, slopes[1:]):
        case.assertNotEqual(one, other)


def check_told_comers(case, thing):
    """That comers are told as 2.1, 2.4 and 3.2 tell."""
    case.assertIs(type(thing), list)
    case.assertEqual(thing[0][0], (0, 1))
    for step in thing:
        case.assertIs(type(step), tuple)
        case.assertTrue(len(step) == 2 and is_lowest(step[0]) and is_lowest(step[1]))
        case.assertGreaterEqual(step[1][0], 0)
    for one, other in zip(thing, thing[1:]):
        case.assertLess(frac(one[0]), frac(other[0]))
        case.assertNotEqual(one[1], other[1])


def check_error(case, error, name, value, call, *args, **named):
    """That a call raises just this error, which keeps the very object."""
    with case.assertRaises(error) as caught:
        call(*args, **named)
    case.assertIs(type(caught.exception), error)
    kept = getattr(caught.exception, name)
    if isinstance(value, (list, dict, str)) or callable(value):
        case.assertIs(kept, value)
    else:
        case.assertEqual(kept, value)
        case.assertIs(type(kept), type(value))


def swapped(thing):
    """The same thing, with tuples for lists and lists for tuples."""
    if isinstance(thing, list):
        return tuple([swapped(part) for part in thing])
    if isinstance(thing, tuple):
        return [swapped(part) for part in thing]
    return thing


def unlowered(thing, factor=3):
    """The same curve or comers, with no fraction in lowest terms."""
    if isinstance(thing, (list, tuple)):
        if len(thing) == 2 and type(thing[0]) is int and type(thing[1]) is int:
            return (thing[0] * factor, thing[1] * factor)
        return type(thing)([unlowered(part, factor) for part in thing])
    return thing


def with_needless(thing):
    """A curve that means the same, with needless corners."""
    corners = [(frac(one), frac(other)) for one, other in thing[0]]
    moments = [moment for moment, _ in corners]
    more = [(one + other) / 2 for one, other in zip(moments, moments[1:])] + [moments[-1] + 2, moments[-1] + 3]
    return ([(pair(moment), pair(worth(thing, moment))) for moment in sorted(moments + more)], thing[1])


def with_like_neighbours(steps):
    """Comers that mean the same, with like rates in neighbours."""
    found = []
    for index, (moment, rate) in enumerate(steps):
        found.append((moment, rate))
        end = frac(steps[index + 1][0]) if index + 1 < len(steps) else frac(moment) + 4
        found.append((pair((frac(moment) + end) / 2), rate))
    return found


class Chance:
    """Samples, the same in each run."""

    def __init__(self, seed):
        self.random = random.Random(seed)

    def number(self, low, high):
        return self.random.randint(low, high)

    def fraction(self, low, high, bottoms=(1, 1, 2, 3, 4, 6)):
        bottom = self.random.choice(bottoms)
        return Fraction(self.random.randint(low * bottom, high * bottom), bottom)

    def moments(self, many, high=20):
        found = {Fraction(0)}
        while len(found) < many:
            found.add(self.fraction(0, high))
        return sorted(found)

    def curve(self, corners=5, low=-12, high=12, slopes=(-6, 6)):
        moments = self.moments(self.number(1, corners))
        steps = [(moment, self.fraction(low, high)) for moment in moments]
        return curve(steps, self.fraction(slopes[0], slopes[1]))

    def rising(self, corners=5, first=None, least=0):
        """A curve that grows by at least so many beats, from 0 or another worth on."""
        moments = self.moments(self.number(1, corners))
        height = Fraction(0) if first is None else Fraction(first)
        steps = [(moments[0], height)]
        for one, other in zip(moments, moments[1:]):
            height += (other - one) * self.fraction(least, least + 5)
            steps.append((other, height))
        return curve(steps, self.fraction(least, least + 5))

    def growing(self, corners=5):
        """A curve from 0 on that grows from each moment on."""
        moments = self.moments(self.number(1, corners))
        height = Fraction(0)
        steps = [(moments[0], height)]
        for one, other in zip(moments, moments[1:]):
            height += (other - one) * Fraction(self.number(1, 12), self.number(1, 6))
            steps.append((other, height))
        return curve(steps, Fraction(self.number(1, 12), self.number(1, 6)))

    def comers(self, many=4, high=6, until=12):
        moments = self.moments(self.number(1, many), until)
        return comers(*[(moment, max(0, self.fraction(-1, high))) for moment in moments])

    def lane(self, lengths=5, rooms=6):
        return (self.number(1, lengths), self.number(1, rooms))

    def net(self, places=5, roads=8):
        """A net with some way."""
        while True:
            many = self.number(2, places)
            found = set()
            for _ in range(self.number(1, roads)):
                one, other = self.random.sample(range(many), 2)
                found.add((one, other, self.number(1, 4), self.number(1, 4)))
            start, end = self.random.sample(range(many), 2)
            net = Net(many, sorted(found), start, end)
            if all_ways(net):
                return net

    def plan(self, net, groups=4):
        found = all_ways(net)
        self.random.shuffle(found)
        return [(way, self.comers(3)) for way in found[:self.number(0, groups)]]


def all_ways(net):
    """All ways, ascending, by trying all roads one behind another."""
    found = []

    def go(way, been):
        if been[-1] == net.end():
            found.append(way)
            return
        for number, (one, other, _, _) in enumerate(net.roads()):
            if one == been[-1] and other not in been:
                go(way + [number], been + [other])

    go([], [net.start()])
    return found


def rows_to(net, place):
    """All rows of roads from the start to a place that come to no place twice."""
    found = []

    def go(row, been):
        if been[-1] == place:
            found.append(row)
            return
        for number, (one, other, _, _) in enumerate(net.roads()):
            if one == been[-1] and other not in been:
                go(row + [number], been + [other])

    go([], [net.start()])
    return found


def reached(net):
    """The ascending list of the places that can be come to."""
    return [place for place in range(net.places()) if rows_to(net, place)]


def check_told_dict(case, thing, is_worth=is_lowest):
    """That a dict from integers to fractions is told as 2.1 and 2.4 tell."""
    case.assertIs(type(thing), dict)
    case.assertEqual(list(thing), sorted(thing))
    for key in thing:
        case.assertIs(type(key), int)
        case.assertTrue(is_worth(thing[key]))


def check_doors(case, call, good, errors):
    """That errors come in the order in which they are listed, each ahead of all that are due behind it.

    good are arguments that are let; errors are tuples of an argument's index, the error, the name under
    which it keeps the very object (or "index", for the index 0), and bad things.
    """
    call(*good)
    for at, (argument, error, name, things) in enumerate(errors):
        args = list(good)
        for later, _, _, wrong in errors[at + 1:]:
            args[later] = wrong[0]
        for thing in things:
            args[argument] = thing
            check_error(case, error, name, 0 if name == "index" else thing, call, *args)


def reversed_dict(thing):
    """The same dict, its keys the other way about."""
    return {key: thing[key] for key in list(thing)[::-1]}


def other_dicts(thing):
    """Dicts that are nearly the same: a key less, one more, others, other worths, and no dicts."""
    found = [list(thing.items()), list(thing.values()), None, list(thing)]
    for key in thing:
        rest = {one: thing[one] for one in thing if one != key}
        found = found + [rest, {**rest, key: None}, {**rest, key: (thing[key][0] + 1, thing[key][1])},
                         {**rest, key: (thing[key][0], thing[key][1] + 1)} if thing[key][0] else {**rest, key: (0, 0)},
                         {**rest, key: (-7, 3)}, {**rest, key: thing[key][0]}, {**rest, (key,): thing[key]},
                         {**rest, str(key): thing[key]}, {**rest, None: thing[key]}, {**rest, key + 50: thing[key]},
                         {**rest, -1 - key: thing[key]}, {**rest, key: (True, thing[key][1])},
                         {**rest, key: thing[key] + (1,)}]
        if key in (0, 1):
            found.append({**rest, bool(key): thing[key]})
    return found + [{**thing, 50: (1, 1)}, {**thing, "a": (1, 1)}, {**thing, -1: (0, 1)}, {**thing, None: None}]
