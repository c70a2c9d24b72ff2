"""6.5: stories, of the plan and of others."""

import unittest
from fractions import Fraction

from quickbythen.errors import BadMoment
from quickbythen.plans import lines, played
from quickbythen.refusals import BadPlan, BadWay
from quickbythen.stories import story
from tests.helpers import (N, NO_MOMENTS, ODD, Chance, all_ways, check_error, comers, frac, moments_in, pair, swapped,
                           unlowered, worth)
from tests.test_plans import PLAN, RING, RING_NET, TWO, ring_plan


def walk(net, waiting, way, moment, until):
    """By 3.4, road by road."""
    found = [moment]
    for number in way:
        if moment > until:
            break
        _, _, length, room = net.roads()[number]
        moment += worth(waiting[number], moment) / room + length
        found.append(moment)
    return [pair(one) for one in found if one <= until]


class StoriesTest(unittest.TestCase):
    def test_example(self):
        self.assertEqual(story(N, PLAN, [0, 2, 4], (3, 1), (20, 1)), [(3, 1), (7, 1), (8, 1), (9, 1)])
        self.assertEqual(story(N, PLAN, [1, 4], (3, 1), (20, 1)), [(3, 1), (6, 1), (7, 1)])
        self.assertEqual(story(N, PLAN, [0, 3], (3, 1), (20, 1)), [(3, 1), (7, 1), (11, 1)])

    def test_until(self):
        for until, many in ((9, 4), (Fraction(89, 10), 3), (8, 3), (7, 2), (Fraction(13, 2), 1), (3, 1), (2, 0), (0, 0)):
            self.assertEqual(story(N, PLAN, [0, 2, 4], (3, 1), pair(until)),
                             [(3, 1), (7, 1), (8, 1), (9, 1)][:many])
        self.assertEqual(story(N, PLAN, [0, 2, 4], (0, 1), (0, 1)), [(0, 1)])
        self.assertEqual(story(N, [], [0, 2, 4], (6, 4), (9, 1)), [(3, 2), (5, 2), (7, 2), (9, 2)])

    def check_plan(self, net, plan, until, moments):
        waiting = lines(net, plan, pair(until))
        for way in all_ways(net):
            last = []
            for moment in moments:
                told = story(net, plan, way, pair(moment), pair(until))
                self.assertIs(type(told), list)
                self.assertEqual(told, walk(net, waiting, way, moment, until))
                self.assertEqual(story(net, swapped(plan), tuple(way), unlowered(pair(moment)), list(pair(until))), told)
                # Who sets out later is nowhere earlier.
                for one, other in zip(last, told):
                    self.assertLessEqual(frac(one), frac(other))
                self.assertTrue(not last or len(told) <= len(last))
                last = told

    def check_groups(self, net, plan, until):
        told = played(net, plan, pair(until))
        for (way, _), group in zip(plan, told):
            for moment in moments_in(*group):
                if moment <= until:
                    for one, then in zip(group, story(net, plan, way, pair(moment), pair(until))):
                        self.assertEqual(worth(one, frac(then)), worth(group[0], moment))

    def test_samples(self):
        chance = Chance(37)
        for _ in range(30):
            net = chance.net()
            plan, until = chance.plan(net), chance.fraction(0, 25)
            self.check_plan(net, plan, until, chance.moments(5))
            self.check_groups(net, plan, until)

    def test_ring(self):
        chance = Chance(38)
        self.check_plan(RING_NET, RING, Fraction(16), chance.moments(6, 12))
        self.check_groups(RING_NET, RING, Fraction(16))
        plan = ring_plan(chance)
        self.check_plan(RING_NET, plan, Fraction(25, 2), chance.moments(6, 12))
        self.check_groups(RING_NET, plan, Fraction(25, 2))

    def test_errors(self):
        for thing in (None, {}, [None], [TWO[0], TWO[0]]):
            index = 1 if thing == [TWO[0], TWO[0]] else 0
            check_error(self, BadPlan, "index", index, story, N, thing, None, None, None)
        for way in ODD + [[0, 2], [0, 2, 4, 4], [2, 4], [False, 3], [5], {0: 0, 1: 3}]:
            check_error(self, BadWay, "thing", way, story, N, TWO, way, None, None)
        for thing in NO_MOMENTS:
            check_error(self, BadMoment, "thing", thing, story, N, TWO, [0, 3], thing, None)
            check_error(self, BadMoment, "thing", thing, story, N, TWO, [0, 3], (9, 1), thing)

    def test_by_names(self):
        self.assertEqual(story(until=(9, 1), moment=(3, 1), way=[0, 2, 4], plan=PLAN, net=N)[-1], (9, 1))
        self.assertEqual(story(N, [([0, 3], comers((0, 4)))], [0, 3], (2, 1), (99, 1)), [(2, 1), (5, 1), (13, 1)])


if __name__ == "__main__":
    unittest.main()
