"""6.1 to 6.4: plans, what comes of them, that it is just one; and what 6.8 shows of them."""

import unittest
from fractions import Fraction

from quickbythen.errors import BadMoment, BadRoad
from quickbythen.madecurves import added
from quickbythen.nets import Net
from quickbythen.plans import is_plan, is_played, line_then, lines, played, tally
from quickbythen.refusals import BadPlan
from tests.helpers import (N, NO_INTEGERS, NO_MOMENTS, ODD, ZERO_CURVE, Chance, all_ways, check_error, check_told_curve,
                           comers, curve, frac, heap, is_lowest, moments_in, pair, swapped, unlowered,
                           with_like_neighbours, with_needless, worth)

PLAN = [([0, 2, 4], comers((0, 4), (3, 0)))]
TWO = [([0, 3], comers((0, 3))), ([0, 2, 4], comers((0, 1)))]
# Three ways that cross one another round the roads 4, 6 and 8, each of which is one's first and another one's second.
RING_NET = Net(5, [(0, 1, 1, 3), (0, 2, 1, 2), (0, 3, 2, 2), (1, 2, 1, 2), (1, 4, 1, 3), (2, 3, 1, 2), (2, 4, 3, 2),
                   (3, 1, 1, 1), (3, 4, 1, 3)], 0, 4)
RING = [([0, 3, 5, 8], comers((0, 3), (Fraction(1, 3), 5), (4, 1))), ([1, 5, 7, 4], comers((0, 2), (5, 0))),
        ([2, 7, 3, 6], comers((0, 0), (1, 4), (7, Fraction(1, 2))))]


def ring_plan(chance):
    return [(way, chance.comers(3, 5)) for way, _ in RING] + ([([1, 6], chance.comers())] if chance.number(0, 1) else [])


class Played:
    """What 6.3 tells of lists of curves, looked through."""

    def __init__(self, case, net, plan, until, curves, waiting):
        self.case = case
        self.net = net
        self.plan = plan
        self.until = until
        self.curves = curves
        self.waiting = waiting

    def check(self):
        case = self.case
        case.assertEqual(len(self.curves), len(self.plan))
        case.assertEqual(len(self.waiting), len(self.net.roads()))
        for (way, steps), group in zip(self.plan, self.curves):
            case.assertIs(type(group), list)
            case.assertEqual(len(group), len(way) + 1)
            for one in group:
                self.check_kept(one)
                case.assertEqual(one[0][0], ((0, 1), (0, 1)))
                heights = [frac(corner[1]) for corner in one[0]]
                case.assertEqual(heights, sorted(heights))
            for moment in moments_in(group[0]) + [frac(step[0]) for step in steps]:
                case.assertEqual(worth(group[0], moment), heap(steps, min(moment, self.until)))
        for one in self.waiting:
            self.check_kept(one)
        for number in range(len(self.net.roads())):
            self.check_road(number)

    def check_kept(self, one):
        check_told_curve(self.case, one)
        self.case.assertEqual(one[1], (0, 1))
        self.case.assertLessEqual(frac(one[0][-1][0]), self.until)

    def check_road(self, number):
        case = self.case
        _, _, length, room = self.net.roads()[number]
        coming, going = [], []
        for (way, _), group in zip(self.plan, self.curves):
            if number in way:
                coming.append(group[way.index(number)])
                going.append(group[way.index(number) + 1])
        line = self.waiting[number]
        came = added(coming)
        corners = [frac(corner[0]) for corner in came[0]]
        for moment in moments_in(line, came, *going):
            if moment > self.until:
                continue
            heights = [worth(came, moment) - worth(came, then) - room * (moment - then)
                       for then in corners + [moment] if then <= moment]
            case.assertEqual(worth(line, moment), max(heights))
            out = moment + worth(line, moment) / room + length
            if out <= self.until:
                for one, other in zip(coming, going):
                    case.assertEqual(worth(one, moment), worth(other, out))
        for other in going:
            case.assertEqual(worth(other, min(Fraction(length), self.until)), 0)


class PlansTest(unittest.TestCase):
    def test_is_plan(self):
        for plan in ([], (), PLAN, TWO, RING):
            net = RING_NET if plan is RING else N
            self.assertIs(is_plan(net, plan), True)
            self.assertIs(is_plan(net, swapped(plan)), True)
        self.assertTrue(is_plan(N, thing=[([1, 4], unlowered(comers((0, 1))))]))
        self.assertTrue(is_plan(net=N, thing=[((1, 4), [((0, 9), (10 ** 5000, 1))])]))

    def wrong_groups(self):
        good = comers((0, 1))
        return ODD + [([0, 3], []), ([0, 3], None), ([0, 3], [((1, 1), (1, 1))]), ([0], good), ([], good), (None, good),
                      ([0, 3], good, good), ([0, 3],), ([0, 3, 4], good), ([False, 3], good), {0: [0, 3], 1: good},
                      ([0, 3], [((0, 1), (True, 1))]), (good, [0, 3]), ([0, 5], good)]

    def test_bad_plan(self):
        calls = ((played, ((1, 1),)), (lines, ((1, 1),)), (line_then, (0, (1, 1))), (is_played, ((1, 1), [])),
                 (tally, ((1, 1),)))
        for thing in (None, 5, "", "ab", {}, {0: PLAN[0]}, True, len, N):
            self.assertIs(is_plan(N, thing), False)
            for call, others in calls:
                check_error(self, BadPlan, "index", 0, call, N, thing, *others)
                check_error(self, BadPlan, "index", 0, call, N, thing, *[None for _ in others])
        for thing in self.wrong_groups():
            self.assertFalse(is_plan(N, [thing]))
            self.assertFalse(is_plan(N, TWO + [thing]))
            for call, others in calls:
                check_error(self, BadPlan, "index", 2, call, N, TWO + [thing, None], *others)

    def test_way_that_stood_before(self):
        for way in ([0, 3], (0, 3)):
            plan = TWO + [(way, comers((0, 5)))]
            self.assertFalse(is_plan(N, plan))
            check_error(self, BadPlan, "index", 2, played, N, plan, (1, 1))
            for first in ([0, 3], (0, 3)):
                plan = [(first, comers((0, 1))), (way, comers((0, 5)))]
                self.assertFalse(is_plan(N, plan))
                check_error(self, BadPlan, "index", 1, lines, N, plan, (1, 1))
        self.assertTrue(is_plan(N, TWO + [([1, 4], comers((0, 3)))]))

    def test_bad_moments(self):
        for thing in NO_MOMENTS:
            check_error(self, BadMoment, "thing", thing, played, N, PLAN, thing)
            check_error(self, BadMoment, "thing", thing, lines, N, PLAN, thing)
            check_error(self, BadMoment, "thing", thing, line_then, N, PLAN, 0, thing)
            check_error(self, BadMoment, "thing", thing, tally, N, PLAN, thing)
            check_error(self, BadMoment, "thing", thing, is_played, N, PLAN, thing, [])

    def test_bad_road(self):
        for road in NO_INTEGERS + [-1, 5, [0], (0, 1, 1, 2)]:
            check_error(self, BadRoad, "road", road, line_then, N, PLAN, road, None)


class PlayedTest(unittest.TestCase):
    def check_plan(self, net, plan, until):
        then = pair(until)
        told, waiting = played(net, plan, then), lines(net, plan, then)
        Played(self, net, plan, until, told, waiting).check()
        self.assertIs(is_played(net, plan, then, told), True)
        self.assertIs(is_played(net, plan, then, swapped([[with_needless(one) for one in group] for group in told])), True)
        for same in (swapped(plan), [(way, with_like_neighbours(unlowered(steps))) for way, steps in plan]):
            self.assertEqual(played(net, same, unlowered(then)), told)
            self.assertEqual(lines(net, same, unlowered(then)), waiting)
        return told, waiting

    def check_asked(self, net, plan, until, told, waiting):
        """line_then and tally, at a moment up to until, from the curves to until."""
        for moment in {Fraction(0), until / 3, until / 2, until}:
            then = pair(moment)
            heights = [pair(worth(line, moment)) for line in waiting]
            self.assertEqual([line_then(net, plan, road, then) for road in range(len(waiting))], heights)
            come = sum([worth(group[0], moment) for group in told])
            there = sum([worth(group[-1], moment) for group in told])
            inside = sum([frac(height) for height in heights])
            found = tally(net, plan, unlowered(then))
            self.assertEqual(found, tuple([pair(many) for many in (come, inside, come - inside - there, there)]))
            self.assertTrue(all([is_lowest(part) for part in found]))
            self.assertGreaterEqual(frac(found[2]), 0)

    def test_samples(self):
        chance = Chance(35)
        for _ in range(60):
            net = chance.net()
            plan = chance.plan(net)
            until = chance.fraction(0, 25)
            told, waiting = self.check_plan(net, plan, until)
            self.check_asked(net, plan, until, told, waiting)

    def test_ways_that_cross_in_a_ring(self):
        chance = Chance(36)
        for until in (0, Fraction(1, 2), 1, Fraction(7, 3), 4, 9, 16):
            self.check_plan(RING_NET, RING, Fraction(until))
        for _ in range(15):
            plan = ring_plan(chance)
            until = chance.fraction(0, 16)
            told, waiting = self.check_plan(RING_NET, plan, until)
            self.check_asked(RING_NET, plan, until, told, waiting)

    def test_longer_roads_in_a_ring(self):
        roads = [(one, other, length + 1, room) for one, other, length, room in RING_NET.roads()]
        net = Net(5, roads, 0, 4)
        self.check_plan(net, RING, Fraction(16))
        self.check_plan(net, RING, Fraction(31, 2))

    def test_far_moments_in_a_ring(self):
        # When nobody comes any more nothing changes for ever: that takes no longer to tell than what was ahead.
        plan = [(way, steps + comers((8, 0))) for way, steps in RING]
        told, waiting = played(RING_NET, plan, (1000, 1)), lines(RING_NET, plan, (1000, 1))
        self.assertEqual(played(RING_NET, plan, (10 ** 30, 7)), told)
        self.assertEqual(lines(RING_NET, plan, (10 ** 30, 7)), waiting)
        self.check_plan(RING_NET, plan, Fraction(1000))

    def test_steady_comers_in_a_ring(self):
        # All that changes does so by what goes round the ring.
        for rates in ((3, 5, 4), (9, 9, 9), (1, 7, 2), (2, 2, 30)):
            plan = [(way, comers((0, rate))) for (way, _), rate in zip(RING, rates)]
            self.check_plan(RING_NET, plan, Fraction(16))
            self.check_plan(RING_NET, plan[::-1], Fraction(33, 2))

    def test_wide_short_roads_between_places_with_great_numbers_in_a_ring(self):
        chance = Chance(41)
        roads = [(one + 3, other + 3, length, room + 2) for one, other, length, room in RING_NET.roads()]
        net = Net(8, roads, 3, 7)
        for _ in range(10):
            plan = [(way, chance.comers(3, 12)) for way, _ in RING]
            self.check_plan(net, plan, chance.fraction(4, 16))

    def test_what_is_up_to_a_moment_stays_so(self):
        for net, plan in ((N, TWO), (RING_NET, RING)):
            long, later = played(net, plan, (12, 1)), lines(net, plan, (12, 1))
            for until in (Fraction(1, 3), 2, Fraction(9, 2), 8):
                for group, others in zip(played(net, plan, pair(until)), long):
                    for one, other in zip(group, others):
                        for moment in moments_in(one, other):
                            self.assertEqual(worth(one, moment), worth(other, min(moment, until)))
                for one, other in zip(lines(net, plan, pair(until)), later):
                    for moment in moments_in(one, other):
                        self.assertEqual(worth(one, moment), worth(other, min(moment, until)))

    def test_example(self):
        self.assertEqual(lines(N, PLAN, (20, 1)), [curve([(0, 0), (3, 6), (6, 0)], 0)] + [ZERO_CURVE] * 4)
        told = played(N, PLAN, (20, 1))
        self.assertEqual(told, [[curve([(0, 0), (3, 12)], 0), curve([(0, 0), (1, 0), (7, 12)], 0),
                                 curve([(0, 0), (2, 0), (8, 12)], 0), curve([(0, 0), (3, 0), (9, 12)], 0)]])
        self.assertEqual(played(N, PLAN, (4, 1)), [[curve([(0, 0), (3, 12)], 0), curve([(0, 0), (1, 0), (4, 6)], 0),
                                                    curve([(0, 0), (2, 0), (4, 4)], 0),
                                                    curve([(0, 0), (3, 0), (4, 2)], 0)]])
        self.assertEqual(line_then(N, PLAN, 0, (3, 1)), (6, 1))
        self.assertEqual(line_then(N, PLAN, 0, (6, 1)), (0, 1))
        self.assertEqual(tally(N, PLAN, (4, 1)), ((12, 1), (4, 1), (6, 1), (2, 1)))

    def test_empty(self):
        self.assertEqual(played(N, [], (5, 1)), [])
        self.assertEqual(lines(N, (), (5, 1)), [ZERO_CURVE] * 5)
        self.assertEqual(tally(N, [], (5, 1)), ((0, 1),) * 4)
        self.assertEqual(line_then(N, [], 4, (5, 1)), (0, 1))
        self.assertTrue(is_played(N, [], (5, 1), []))
        self.assertTrue(is_played(N, [], (5, 1), ()))
        self.assertFalse(is_played(N, [], (5, 1), [[]]))
        self.assertEqual(lines(Net(2, [], 0, 1), [], (5, 1)), [])

    def test_until_nothing(self):
        for net, plan in ((N, TWO), (RING_NET, RING)):
            self.assertEqual(played(net, plan, (0, 7)), [[ZERO_CURVE] * (len(way) + 1) for way, _ in plan])
            self.assertEqual(lines(net, plan, (0, 7)), [ZERO_CURVE] * len(net.roads()))
            self.assertEqual(tally(net, plan, (0, 7)), ((0, 1),) * 4)

    def test_group_that_nobody_comes_by(self):
        plan = PLAN + [([0, 3], comers((0, 0))), ([1, 4], comers((0, 0), (3, 0)))]
        told = played(N, plan, (20, 1))
        self.assertEqual(told[0], played(N, PLAN, (20, 1))[0])
        self.assertEqual(told[1:], [[ZERO_CURVE] * 3, [ZERO_CURVE] * 3])

    def test_line_that_ends_just_when_more_come(self):
        plan = [([0, 3], comers((0, 4), (1, 0), (2, 4), (3, 2), (4, 1)))]
        told, waiting = self.check_plan(N, plan, Fraction(12))
        self.assertEqual(waiting[0], curve([(0, 0), (1, 2), (2, 0), (3, 2), (4, 2), (6, 0)], 0))

    def test_what_is_told_is_new(self):
        for call, sizes in ((played, None), (lines, None)):
            told = call(N, TWO, (9, 1))
            again = call(N, TWO, (9, 1))
            self.assertIsNot(told, again)
            for part in told:
                part = part[0] if call is lines else part
                part.clear()
            self.assertEqual(call(N, TWO, (9, 1)), again)
        kept = {}
        for one in lines(N, [], (3, 1)) + played(N, [([0, 3], comers((0, 0)))], (3, 1))[0]:
            self.assertNotIn(id(one[0]), kept)
            kept[id(one[0])] = one

    def test_what_is_passed_stays(self):
        plan = [[[0, 2, 4], [[[0, 2], [8, 2]], [[3, 1], [0, 1]]]]]
        for call in (played, lines, tally):
            call(N, plan, [8, 2])
        self.assertEqual(plan, [[[0, 2, 4], [[[0, 2], [8, 2]], [[3, 1], [0, 1]]]]])

    def test_by_names(self):
        self.assertEqual(played(until=(4, 1), plan=PLAN, net=N), played(N, PLAN, (4, 1)))
        self.assertEqual(lines(until=(4, 1), plan=PLAN, net=N), lines(N, PLAN, (4, 1)))
        self.assertEqual(line_then(moment=(3, 1), road=0, plan=PLAN, net=N), (6, 1))
        self.assertEqual(tally(moment=(4, 1), plan=PLAN, net=N), tally(N, PLAN, (4, 1)))
        self.assertFalse(is_played(thing=None, until=(4, 1), plan=PLAN, net=N))


class IsPlayedTest(unittest.TestCase):
    def test_others(self):
        then = (9, 1)
        told = played(N, TWO, then)
        for thing in ODD + [told + [[]], told[:1], told[::-1], [told[0], told[1][:-1]], [told[0], told[1] + [ZERO_CURVE]],
                            [told[0], None], [None, told[1]], {0: told[0], 1: told[1]}]:
            self.assertIs(is_played(N, TWO, then, thing), False)
        self.assertTrue(is_played(N, TWO, then, told))

    def test_one_curve_otherwise(self):
        then = (9, 1)
        for net, plan in ((N, TWO), (RING_NET, RING)):
            told = played(net, plan, then)
            for group in range(len(told)):
                for place in range(len(told[group])):
                    corners, slope = told[group][place]
                    last = frac(corners[-1][0])
                    for other in ((corners, (1, 9)), (corners[:-1] or [((0, 1), (1, 1))], slope), None, 5, [],
                                  (corners + [(pair(last + 1), (10 ** 3000, 7))], slope), (corners, None)):
                        thing = [list(one) for one in played(net, plan, then)]
                        thing[group][place] = other
                        self.assertFalse(is_played(net, plan, then, thing))

    def test_other_moment(self):
        self.assertFalse(is_played(N, TWO, (9, 1), played(N, TWO, (10, 1))))


if __name__ == "__main__":
    unittest.main()
