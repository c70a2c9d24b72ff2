"""6.6 orders, 6.7 for ever, and what 6.8 shows of them."""

import unittest
from fractions import Fraction

from quickbythen.curves import plain
from quickbythen.nets import Net
from quickbythen.orders import at_last, left_lines, played_out, road_order, road_ring, still_from
from quickbythen.plans import is_plan, lines, played
from quickbythen.refusals import BadPlan, NoOrder
from tests.helpers import (N, Chance, all_ways, check_error, check_told_curve, comers, curve, frac, heap, is_lowest,
                           moments_in, pair, slope_behind, swapped, unlowered, with_like_neighbours, worth)
from tests.test_plans import PLAN, RING, RING_NET, TWO

FOR_EVER = (played_out, still_from, at_last, left_lines)


class OrdersTest(unittest.TestCase):
    def check_both(self, net, plan):
        order, ring = road_order(net, plan), road_ring(net, plan)
        self.assertEqual(order is None, ring is not None)
        for same in (swapped(plan), [(way, unlowered(steps)) for way, steps in plan]):
            self.assertEqual((road_order(net, same), road_ring(net, same)), (order, ring))
        if order is not None:
            self.assertIs(type(order), list)
            self.assertEqual(sorted(order), sorted({road for way, _ in plan for road in way}))
            for way, _ in plan:
                places = [order.index(road) for road in way]
                self.assertEqual(places, sorted(places))
            return True
        self.assertIs(type(ring), list)
        self.assertTrue(ring)
        self.assertEqual(len(set(ring)), len(ring))
        follow = {(way[index], way[index + 1]) for way, _ in plan for index in range(len(way) - 1)}
        for one, other in zip(ring, ring[1:] + ring[:1]):
            self.assertIn((one, other), follow)
        for call in FOR_EVER:
            with self.assertRaises(NoOrder) as caught:
                call(net, plan)
            self.assertEqual(caught.exception.ring, ring)
        return False

    def test_by_hand(self):
        self.assertEqual(road_order(N, []), [])
        self.assertIsNone(road_ring(N, ()))
        self.assertTrue(self.check_both(N, TWO))
        self.assertEqual(road_order(net=N, plan=PLAN), [0, 2, 4])
        self.assertFalse(self.check_both(RING_NET, RING))
        self.assertEqual(sorted(road_ring(net=RING_NET, plan=RING)), [3, 5, 7])
        for left in range(3):
            self.assertTrue(self.check_both(RING_NET, RING[:left] + RING[left + 1:]))

    def test_ring_of_two(self):
        # From 1 to 2 and back by 3: one way goes road 3 ahead of road 5, another one behind it.
        net = Net(6, [(0, 1, 1, 1), (0, 3, 1, 1), (1, 2, 1, 1), (2, 3, 1, 1), (2, 5, 1, 1), (3, 4, 1, 1), (4, 1, 1, 1),
                      (4, 5, 1, 1)], 0, 5)
        plan = [([0, 2, 3, 5, 7], comers((0, 1))), ([1, 5, 6, 2, 4], comers((0, 1)))]
        self.assertTrue(is_plan(net, plan))
        self.assertFalse(self.check_both(net, plan))
        self.assertEqual(sorted(road_ring(net, plan)), [2, 3, 5, 6])

    def test_roads_in_an_order_that_is_not_theirs(self):
        net = Net(4, [(0, 3, 1, 1), (1, 2, 1, 1), (3, 1, 1, 1)], 0, 2)
        plan = [([0, 2, 1], comers((0, 1)))]
        self.assertEqual(road_order(net, plan), [0, 2, 1])

    def test_just_one(self):
        chance = Chance(39)
        inner = [(one, other, 1, 1) for one in range(1, 5) for other in range(1, 5) if one != other]
        net = Net(6, inner + [(0, place, 1, 1) for place in range(1, 5)] + [(place, 5, 1, 1) for place in range(1, 5)],
                  0, 5)
        ways = [way for way in all_ways(net) if len(way) > 3]
        found = [0, 0]
        for _ in range(150):
            plan = [(way, comers((0, 1))) for way in chance.random.sample(ways, chance.number(2, 6))]
            found[self.check_both(net, plan)] += 1
        self.assertGreater(min(found), 25)

    def test_bad_plan(self):
        for call in FOR_EVER + (road_order, road_ring):
            for thing in (None, 5, "", {}, True):
                check_error(self, BadPlan, "index", 0, call, N, thing)
            check_error(self, BadPlan, "index", 1, call, N, [TWO[0], None])
            check_error(self, BadPlan, "index", 2, call, N, TWO + TWO)
        for call in FOR_EVER:
            check_error(self, BadPlan, "index", 3, call, RING_NET, RING + RING)


class ForEverTest(unittest.TestCase):
    def test_example(self):
        self.assertEqual(still_from(N, PLAN), (9, 1))
        told = played_out(N, TWO)
        self.assertEqual(told[0][1], ([((0, 1), (0, 1)), ((1, 1), (0, 1))], (3, 2)))
        self.assertEqual(told[0][2], ([((0, 1), (0, 1)), ((5, 1), (0, 1))], (1, 1)))
        self.assertEqual(at_last(N, TWO), [(1, 1), (1, 2)])
        self.assertEqual(still_from(N, TWO), (5, 1))
        self.assertEqual(left_lines(N, TWO), {0: ((10, 1), (2, 1)), 3: ((2, 1), (1, 2))})

    def test_empty(self):
        self.assertEqual(played_out(N, []), [])
        self.assertEqual(still_from(N, []), (0, 1))
        self.assertEqual(at_last(N, []), [])
        self.assertEqual(left_lines(N, []), {})
        nobody = [([0, 3], comers((0, 0)))]
        self.assertEqual(still_from(N, nobody), (0, 1))
        self.assertEqual(at_last(N, nobody), [(0, 1)])

    def test_line_that_stays_and_line_that_grows(self):
        plan = [([0, 3], comers((0, 4), (1, 2)))]
        self.assertEqual(left_lines(N, plan), {0: ((2, 1), (0, 1)), 3: ((4, 1), (1, 1))})
        self.assertEqual(still_from(N, plan), (5, 1))
        # As much as there is room for leaves no line, if there was none.
        self.assertEqual(left_lines(N, [([0, 2, 4], comers((0, 2)))]), {})
        self.assertEqual(left_lines(N, [([0, 2, 4], comers((0, 0), (7, 2)))]), {})
        # A line that only begins when nothing bends any more: there is none yet at still_from.
        net = Net(2, [(0, 1, 3, 2)], 0, 1)
        self.assertEqual(left_lines(net, [([0], comers((0, 5)))]), {0: ((9, 1), (3, 1))})
        self.assertEqual(left_lines(net, [([0], comers((0, 2), (4, 5)))]), {0: ((0, 1), (3, 1))})
        self.assertEqual(still_from(net, [([0], comers((0, 2), (4, 5)))]), (4, 1))
        self.assertEqual(left_lines(N, [([1, 4], comers((0, 5)))]), {1: ((8, 1), (2, 1)), 4: ((1, 1), (1, 1))})

    def lines_at_last(self, net, plan):
        """What comes to each road at last, by the words of IT HOLDS in 6.7."""
        rates = {}
        order = road_order(net, plan)
        now = [frac(steps[-1][1]) for _, steps in plan]
        flows = {}
        for road in order:
            coming = {}
            for index, (way, _) in enumerate(plan):
                if road in way:
                    place = way.index(road)
                    coming[index] = now[index] if place == 0 else flows[index, place]
            rates[road] = sum(coming.values())
            room = net.roads()[road][3]
            share = Fraction(room) / rates[road] if rates[road] > room else 1
            for index in coming:
                flows[index, plan[index][0].index(road) + 1] = coming[index] * share
        return rates, [flows[index, len(way)] for index, (way, _) in enumerate(plan)]

    def check_plan(self, net, plan):
        told = played_out(net, plan)
        still = still_from(net, plan)
        self.assertTrue(is_lowest(still))
        last = max([Fraction(0)] + [frac(corner[0]) for group in told for one in group for corner in one[0]])
        self.assertEqual(frac(still), last)
        for index, ((way, steps), group) in enumerate(zip(plan, told)):
            self.assertEqual(len(group), len(way) + 1)
            for one in group:
                check_told_curve(self, one)
            for moment in moments_in(*group):
                self.assertEqual(worth(group[0], moment), heap(steps, moment))
        until = last + 7
        for group, others in zip(told, played(net, plan, pair(until))):
            for one, other in zip(group, others):
                for moment in moments_in(one, other):
                    if moment <= until:
                        self.assertEqual(worth(one, moment), worth(other, moment))
        rates, ends = self.lines_at_last(net, plan)
        self.assertEqual(at_last(net, plan), [pair(rate) for rate in ends])
        left = left_lines(net, plan)
        self.assertEqual(list(left), sorted(left))
        for road, line in enumerate(lines(net, plan, pair(until))):
            growth = slope_behind(line, last)
            height = worth(line, last)
            self.assertEqual(worth(line, last + 7), height + 7 * growth)
            self.assertEqual(road in left, height > 0 or growth > 0)
            if road in left:
                self.assertEqual(left[road], (pair(height), pair(growth)))
                self.assertEqual(growth, rates[road] - net.roads()[road][3])
        for same in (swapped(plan), [(way, with_like_neighbours(unlowered(steps))) for way, steps in plan]):
            self.assertEqual([call(net, same) for call in FOR_EVER], [call(net, plan) for call in FOR_EVER])
            self.assertEqual(road_order(net, same), road_order(net, plan))

    def test_samples(self):
        chance = Chance(40)
        found = 0
        while found < 40:
            net = chance.net()
            plan = chance.plan(net)
            if road_order(net, plan) is not None:
                self.check_plan(net, plan)
                found += 1
        self.check_plan(N, TWO)
        self.check_plan(N, PLAN)
        self.check_plan(N, [([0, 2, 4], comers((0, 9), (1, 2))), ([0, 3], comers((0, 2), (5, 0)))])

    def test_far_moments(self):
        # A long line: what is told may be asked for.
        plan = [([0, 3], comers((0, 200), (200, 0)))]
        still = still_from(N, plan)
        self.assertEqual(still, (40005, 1))
        self.assertEqual(played(N, plan, still), played_out(N, plan))

    def test_by_names_and_new(self):
        for call in FOR_EVER:
            self.assertEqual(call(plan=TWO, net=N), call(N, TWO))
        told = played_out(N, TWO)
        told[0][0][0].clear()
        left_lines(N, TWO).clear()
        self.assertEqual(plain(played_out(N, TWO)[0][0]), curve([(0, 0)], 3))


if __name__ == "__main__":
    unittest.main()
