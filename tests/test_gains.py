"""7.4: nobody gains; and what 7.6 shows of it."""

import unittest
from fractions import Fraction

from quickbythen.errors import BadMoment
from quickbythen.gains import first_gain, gain_of
from quickbythen.nets import Net
from quickbythen.refusals import BadGroup, BadPlan
from tests.helpers import (N, NO_INTEGERS, NO_MOMENTS, Chance, all_ways, check_doors, comers, frac, is_lowest, pair,
                           swapped, unlowered, with_like_neighbours)
from tests.test_plans import RING, RING_NET, TWO, ring_plan
from tests.test_through import STEADY, Lines

BAD_PLANS = [None, 5, "", {}, True, [None], [([0, 3], [])], [([0], comers((0, 1)))]]


def rate_from(steps, moment):
    return [frac(rate) for begin, rate in steps if frac(begin) <= moment][-1]


class GainsTest(unittest.TestCase):
    def gain(self, ride, way, moment):
        """By the words of gain_of."""
        ends = [ride.end_of(one, moment) for one in all_ways(ride.net)]
        best = min([end for end in ends if end is not None] + [ride.until])
        mine = ride.end_of(way, moment)
        return (ride.until if mine is None else mine) - best

    def moments_for(self, plan, until):
        steps = {frac(moment) for _, rows in plan for moment, _ in rows}
        many = 60
        return sorted(steps | {until * index / many for index in range(many + 1)} | {until + 1})

    def check_plan(self, net, plan, until):
        ride = Lines(net, plan, until)
        moments = self.moments_for(plan, until)
        gaining = []
        for moment in moments:
            for index, (way, steps) in enumerate(plan):
                told = gain_of(net, plan, index, pair(moment), pair(until))
                self.assertTrue(is_lowest(told))
                self.assertEqual(frac(told), self.gain(ride, way, moment))
                if told != (0, 1) and rate_from(steps, moment) > 0:
                    gaining.append((moment, index))
        found = first_gain(net, plan, pair(until))
        same = (net, [(way, with_like_neighbours(unlowered(steps))) for way, steps in swapped(plan)], unlowered(pair(until)))
        self.assertEqual(first_gain(*same), found)
        if found is None:
            self.assertEqual(gaining, [])
            return 0
        self.check_first(ride, plan, found)
        for moment, index in gaining:
            self.assertLessEqual((frac(found[0]), found[1] if moment == frac(found[0]) else 0), (moment, index))
        return 1

    def check_first(self, ride, plan, found):
        """Right behind the moment drops come and gain by the way, of no group ahead of it, and nobody did ahead of it."""
        self.assertIs(type(found), tuple)
        moment, index, way = found
        self.assertTrue(is_lowest(moment))
        self.assertIs(type(way), list)
        self.assertIn(way, all_ways(ride.net))
        for part in (Fraction(1, 10 ** 9), Fraction(1, 10 ** 12)):
            behind = frac(moment) + part
            self.assertGreater(rate_from(plan[index][1], frac(moment)), 0)
            there, mine = ride.end_of(way, behind), ride.end_of(plan[index][0], behind)
            self.assertLess(there, ride.until)
            self.assertTrue(mine is None or there < mine)
            for one, steps in plan[:index]:
                self.assertTrue(rate_from(steps, frac(moment)) == 0 or self.gain(ride, one, behind) == 0)
            for one, steps in plan:
                ahead = frac(moment) - part
                self.assertTrue(ahead < 0 or rate_from(steps, ahead) == 0 or self.gain(ride, one, ahead) == 0)

    def test_samples(self):
        chance = Chance(56)
        found = [0, 0]
        for _ in range(60):
            net = chance.net(4, 6)
            plan = chance.plan(net)
            found[self.check_plan(net, plan, chance.fraction(1, 16))] += 1
        self.assertGreater(min(found), 8)

    def test_rings(self):
        chance = Chance(57)
        self.check_plan(RING_NET, RING, Fraction(16))
        self.check_plan(RING_NET, ring_plan(chance), Fraction(25, 2))

    def test_example(self):
        self.assertEqual(first_gain(N, STEADY, (20, 1)), ((1, 1), 0, [1, 4]))
        self.assertIsNone(first_gain(N, STEADY, (5, 1)))
        self.assertEqual(gain_of(N, STEADY, 0, (3, 1), (20, 1)), (2, 1))
        self.assertEqual(gain_of(N, STEADY, 0, (1, 1), (20, 1)), (0, 1))

    def test_until(self):
        # Who sets out at m is at the end at 2 m + 3, or by [1, 4] at m + 4.
        self.assertEqual(first_gain(N, STEADY, (51, 10)), ((1, 1), 0, [1, 4]))
        self.assertEqual(gain_of(N, STEADY, 0, (3, 1), (8, 1)), (1, 1))
        self.assertEqual(gain_of(N, STEADY, 0, (3, 1), (7, 1)), (0, 1))
        self.assertEqual(gain_of(N, STEADY, 0, (3, 1), (1, 1)), (0, 1))
        self.assertEqual(gain_of(N, STEADY, 0, (0, 1), (0, 1)), (0, 1))
        self.assertIsNone(first_gain(N, STEADY, (0, 1)))

    def test_only_who_come_gain(self):
        # A line of [0, 2, 4] is there, but nobody sets out any more when it is worth to go round it.
        self.assertIsNone(first_gain(N, [([0, 2, 4], comers((0, 4), (1, 0)))], (40, 1)))
        plan = [([0, 2, 4], comers((0, 4), (1, 0), (2, 1), (3, 0)))]
        self.assertIsNone(first_gain(N, plan, (40, 1)))
        late = [([0, 2, 4], comers((0, 6), (2, 0), (Fraction(5, 2), 1), (3, 0)))]
        self.assertEqual(first_gain(N, late, (40, 1)), ((1, 2), 0, [1, 4]))
        again = [([0, 2, 4], comers((0, 0), (Fraction(5, 2), 1))), ([0, 3], comers((0, 6), (2, 0)))]
        self.assertEqual(first_gain(N, again, (40, 1))[:2], ((0, 1), 1))
        self.assertEqual(first_gain(N, [([0, 3], comers((0, 0))), ([0, 2, 4], comers((0, 4), (9, 0)))], (20, 1)),
                         ((1, 1), 1, [1, 4]))

    def test_first_of_two_groups_at_one_moment(self):
        net = Net(2, [(0, 1, 1, 1), (0, 1, 2, 1), (0, 1, 3, 9)], 0, 1)
        plan = [([0], comers((0, 0), (1, 4))), ([1], comers((0, 0), (1, 4)))]
        self.assertEqual(first_gain(net, plan, (40, 1)), ((1, 1), 1, [0]))
        self.assertEqual(first_gain(net, plan[::-1], (40, 1)), ((1, 1), 0, [0]))
        self.assertEqual(first_gain(net, [([1], comers((0, 2))), ([2], comers((0, 2)))], (40, 1)), ((0, 1), 0, [0]))

    def test_group_of_which_nobody_comes_any_more(self):
        # From (5, 1) on the second group's drops have a line on road 0, which is the first group's road, too.
        net = Net(3, [(0, 1, 1, 1), (0, 2, 2, 9), (1, 2, 1, 1), (1, 2, 1, 2)], 0, 2)
        for end in (1, 5):
            plan = [([0, 2], comers((0, 1), (end, 0))), ([0, 3], comers((0, 0), (5, 4)))]
            self.assertEqual(first_gain(net, plan, (40, 1)), ((5, 1), 1, [1]))
            self.assertEqual(first_gain(net, plan[::-1], (40, 1)), ((5, 1), 0, [1]))
        plan = [([0, 2], comers((0, 1), (6, 0), (7, 1))), ([0, 3], comers((0, 0), (5, 4)))]
        self.assertEqual(first_gain(net, plan, (40, 1)), ((5, 1), 0, [1]))

    def test_both_as_quick_at_the_moment_itself(self):
        # At (1, 1) the line is worth one beat, right behind it more: first_gain is at (1, 1), gain_of there is 0.
        net = Net(2, [(0, 1, 1, 1), (0, 1, 2, 5)], 0, 1)
        plan = [([0], comers((0, 2)))]
        self.assertEqual(first_gain(net, plan, (40, 1)), ((1, 1), 0, [1]))
        self.assertEqual(gain_of(net, plan, 0, (1, 1), (40, 1)), (0, 1))
        # Where the line stays just so nobody gains.
        self.assertIsNone(first_gain(net, [([0], comers((0, 2), (1, 1)))], (40, 1)))
        self.assertIsNone(first_gain(net, [([0], comers((0, 2), (1, 1))), ([1], comers((0, 0), (1, 3)))], (40, 1)))

    def test_empty(self):
        self.assertIsNone(first_gain(N, [], (40, 1)))
        self.assertIsNone(first_gain(Net(2, [], 0, 1), [], (40, 1)))
        self.assertIsNone(first_gain(N, [([0, 3], comers((0, 0)))], (40, 1)))
        self.assertEqual(gain_of(N, [([0, 3], comers((0, 0)))], 0, (0, 1), (40, 1)), (2, 1))


class ErrorsTest(unittest.TestCase):
    def test_first_gain(self):
        check_doors(self, first_gain, (N, TWO, (9, 1)), [(1, BadPlan, "index", BAD_PLANS),
                                                         (2, BadMoment, "thing", NO_MOMENTS)])

    def test_gain_of(self):
        check_doors(self, gain_of, (N, TWO, 1, (1, 1), (9, 1)), [
            (1, BadPlan, "index", BAD_PLANS), (3, BadMoment, "thing", NO_MOMENTS), (4, BadMoment, "thing", NO_MOMENTS)])
        for index in NO_INTEGERS + [-1, 2, 10 ** 9]:
            with self.assertRaises(BadGroup) as caught:
                gain_of(N, TWO, index, None, None)
            self.assertIs(caught.exception.index, index)
        with self.assertRaises(BadGroup):
            gain_of(N, [], 0, (1, 1), (9, 1))
        with self.assertRaises(BadPlan) as caught:
            gain_of(N, TWO + TWO, None, None, None)
        self.assertEqual(caught.exception.index, 2)

    def test_by_names(self):
        self.assertEqual(first_gain(until=(40, 2), plan=STEADY, net=N), ((1, 1), 0, [1, 4]))
        self.assertEqual(gain_of(until=(20, 1), moment=(6, 2), index=0, plan=STEADY, net=N), (2, 1))
        first_gain(N, STEADY, (20, 1))[2].clear()
        self.assertEqual(first_gain(N, STEADY, (20, 1)), ((1, 1), 0, [1, 4]))


if __name__ == "__main__":
    unittest.main()
