"""7.1 to 7.3 and 7.5: labels through told lines; and what 7.6 shows of them."""

import unittest
from fractions import Fraction

from quickbythen.errors import BadMoment, BadPlace
from quickbythen.nets import Net
from quickbythen.plans import lines
from quickbythen.refusals import BadPlan, BadWay
from quickbythen.stories import story
from quickbythen.through import is_labels, label_through, labels_through, quick_way, quicker
from tests.helpers import (N, NO_INTEGERS, NO_MOMENTS, ODD, Chance, all_ways, check_error, check_told_curve,
                           check_told_dict, comers, curve, frac, moments_in, other_dicts, pair, reversed_dict, rows_to,
                           swapped, unlowered, with_like_neighbours, worth)
from tests.test_plans import PLAN, RING, RING_NET, TWO, ring_plan

STEADY = [([0, 2, 4], [((0, 1), (4, 1))])]
NO_WAY = Net(4, [(0, 1, 1, 1), (1, 0, 2, 1), (2, 3, 1, 1)], 0, 3)


class Lines:
    """By the lines that section 6 tells: when one is where, road by road."""

    def __init__(self, net, plan, until):
        self.net = net
        self.until = until
        self.waiting = lines(net, plan, pair(until))

    def out(self, number, moment):
        _, _, length, room = self.net.roads()[number]
        return moment + worth(self.waiting[number], moment) / room + length

    def end_of(self, row, moment):
        """When one is at the end of a row of roads, None if that is behind until."""
        for number in row:
            if moment > self.until:
                return None
            moment = self.out(number, moment)
        return moment if moment <= self.until else None

    def labels(self, moment):
        """The least over all rows of roads, by places."""
        found = {}
        for place in range(self.net.places()):
            ends = [self.end_of(row, moment) for row in rows_to(self.net, place)]
            ends = [end for end in ends if end is not None]
            if ends:
                found[place] = min(ends)
        return found

    def shows(self, moment, labels):
        """By the words of 7.2, of a dict from places to fractions."""
        if moment > self.until:
            return labels == {}
        if labels.get(self.net.start()) != moment or max(labels.values()) > self.until:
            return False
        reasons = {self.net.start()}
        for number, (one, other, _, _) in enumerate(self.net.roads()):
            if one in labels:
                out = self.out(number, labels[one])
                if out <= self.until and (other not in labels or labels[other] > out):
                    return False
                if labels.get(other) == out:
                    reasons.add(other)
        return reasons == set(labels)


class ThroughTest(unittest.TestCase):
    def check_labels(self, net, plan, until, moment):
        ride = Lines(net, plan, until)
        args = (net, plan, pair(moment), pair(until))
        told = labels_through(*args)
        check_told_dict(self, told)
        plain = {place: frac(told[place]) for place in told}
        self.assertEqual(plain, ride.labels(moment))
        self.assertTrue(ride.shows(moment, plain))
        self.assertIs(is_labels(*args, told), True)
        same = (net, swapped(plan), unlowered(pair(moment)), list(pair(until)))
        self.assertEqual(labels_through(*same), told)
        self.assertIs(is_labels(*same, {place: list(unlowered(told[place])) for place in list(told)[::-1]}), True)
        self.check_ways(ride, args, same, told.get(net.end()))

    def check_ways(self, ride, args, same, label):
        net, plan, moment, until = args
        way = quick_way(*args)
        self.assertEqual(quick_way(*same), way)
        if label is None:
            self.assertIsNone(way)
        else:
            self.assertIs(type(way), list)
            self.assertEqual(story(net, plan, way, moment, until)[-1], label)
            self.assertIn(way, all_ways(net))
        ends = {tuple(one): ride.end_of(one, frac(moment)) for one in all_ways(net)}
        for one in all_ways(net):
            mine = ends[tuple(one)]
            wanted = [other for other in all_ways(net) if ends[tuple(other)] is not None
                      and (mine is None or ends[tuple(other)] < mine)]
            self.assertEqual(quicker(net, plan, one, moment, until), sorted(wanted))
            self.assertEqual(quicker(same[0], same[1], tuple(one), same[2], same[3]), sorted(wanted))

    def test_samples(self):
        chance = Chance(51)
        for _ in range(60):
            net = chance.net()
            plan = chance.plan(net)
            until = chance.fraction(0, 25)
            for moment in {Fraction(0), until, chance.fraction(0, 12), until + Fraction(1, 60)}:
                self.check_labels(net, plan, until, moment)

    def test_rings(self):
        chance = Chance(52)
        for _ in range(6):
            plan = ring_plan(chance)
            for moment in (Fraction(0), Fraction(3), chance.fraction(0, 12)):
                self.check_labels(RING_NET, plan, Fraction(16), moment)

    def test_no_way(self):
        self.assertEqual(labels_through(NO_WAY, [], (1, 1), (9, 1)), {0: (1, 1), 1: (2, 1)})
        self.assertIsNone(quick_way(NO_WAY, [], (1, 1), (9, 1)))
        self.assertEqual(label_through(NO_WAY, [], 2, (9, 1)), curve([(0, 9)], 0))
        self.assertEqual(label_through(NO_WAY, [], 1, (9, 1)), curve([(0, 1), (8, 9)], 0))
        self.assertTrue(is_labels(NO_WAY, (), (1, 1), (9, 1), {0: (1, 1), 1: (2, 1)}))

    def test_until(self):
        # From (3, 1) one is at place 2 at (6, 1), at 1 and at the end at (7, 1).
        self.assertEqual(labels_through(N, STEADY, (3, 1), (7, 1)), {0: (3, 1), 1: (7, 1), 2: (6, 1), 3: (7, 1)})
        self.assertEqual(labels_through(N, STEADY, (3, 1), (69, 10)), {0: (3, 1), 2: (6, 1)})
        self.assertEqual(labels_through(N, STEADY, (3, 1), (6, 1)), {0: (3, 1), 2: (6, 1)})
        self.assertEqual(labels_through(N, STEADY, (3, 1), (59, 10)), {0: (3, 1)})
        self.assertEqual(labels_through(N, STEADY, (3, 1), (3, 1)), {0: (3, 1)})
        self.assertEqual(labels_through(N, STEADY, (3, 1), (29, 10)), {})
        self.assertEqual(labels_through(N, STEADY, (0, 1), (0, 1)), {0: (0, 1)})
        self.assertTrue(is_labels(N, STEADY, (3, 1), (29, 10), {}))
        self.assertFalse(is_labels(N, STEADY, (3, 1), (29, 10), {0: (3, 1)}))
        self.assertFalse(is_labels(N, STEADY, (3, 1), (29, 10), []))
        self.assertIsNone(quick_way(N, STEADY, (3, 1), (69, 10)))
        self.assertEqual(quick_way(N, STEADY, (3, 1), (7, 1)), [1, 4])
        self.assertEqual(quicker(N, STEADY, [0, 2, 4], (3, 1), (69, 10)), [])
        self.assertEqual(quicker(N, STEADY, [0, 2, 4], (3, 1), (7, 1)), [[1, 4]])
        # By [0, 3] one would be there at (11, 1), by [0, 2, 4] at (9, 1): that is not asked.
        self.assertEqual(quicker(N, STEADY, [0, 3], (3, 1), (7, 1)), [[1, 4]])
        self.assertEqual(quicker(N, STEADY, [0, 3], (3, 1), (9, 1)), [[0, 2, 4], [1, 4]])
        self.assertEqual(quicker(N, STEADY, [1, 4], (3, 1), (99, 1)), [])

    def test_example(self):
        self.assertEqual(labels_through(N, STEADY, (3, 1), (20, 1)), {0: (3, 1), 1: (7, 1), 2: (6, 1), 3: (7, 1)})
        self.assertEqual(quicker(N, STEADY, [0, 2, 4], (3, 1), (20, 1)), [[1, 4]])
        self.assertEqual(label_through(N, STEADY, 3, (20, 1)),
                         ([((0, 1), (3, 1)), ((1, 1), (5, 1)), ((16, 1), (20, 1))], (0, 1)))

    def test_is_labels_of_others(self):
        for net, plan, until in ((N, STEADY, (20, 1)), (N, TWO, (8, 1)), (RING_NET, RING, (12, 1))):
            told = labels_through(net, plan, (3, 1), until)
            self.assertTrue(is_labels(net, plan, (3, 1), until, reversed_dict(told)))
            for thing in ODD + other_dicts(told):
                self.assertIs(is_labels(net, plan, (3, 1), until, thing), False)
            for place in told:
                self.assertFalse(is_labels(net, plan, (3, 1), until, {**told, place: (10 ** 6, 1)}))

    def test_just_one(self):
        # What shows labels, of many dicts near those that are told, are just these.
        chance = Chance(53)
        found = 0
        for _ in range(40):
            net = chance.net(4, 5)
            plan, until, moment = chance.plan(net), chance.fraction(3, 14), chance.fraction(0, 5)
            ride = Lines(net, plan, until)
            told = labels_through(net, plan, pair(moment), pair(until))
            for _ in range(20):
                thing = {place: frac(told[place]) for place in told}
                for place in chance.random.sample(range(net.places()), chance.number(0, 2)):
                    if chance.number(0, 1):
                        thing.pop(place, None)
                    else:
                        thing[place] = thing.get(place, moment) + chance.random.choice([1, -1, Fraction(1, 6), 0])
                if thing and min(thing.values()) >= 0:
                    is_right = ride.shows(moment, thing)
                    found += is_right
                    passed = {place: pair(thing[place]) for place in thing}
                    self.assertEqual(is_labels(net, plan, pair(moment), pair(until), passed), is_right)
        self.assertGreater(found, 50)


class LabelCurvesTest(unittest.TestCase):
    def check_curves(self, net, plan, until):
        ride = Lines(net, plan, until)
        same = (net, [(way, with_like_neighbours(unlowered(steps))) for way, steps in plan])
        for place in range(net.places()):
            told = label_through(net, plan, place, pair(until))
            check_told_curve(self, told)
            self.assertEqual(label_through(*same, place, unlowered(pair(until))), told)
            heights = []
            for moment in moments_in(told, ([(pair(until), (0, 1))], (0, 1))):
                label = ride.labels(moment).get(place, until)
                self.assertEqual(worth(told, moment), label)
                heights.append(label)
            self.assertEqual(heights, sorted(heights))

    def test_samples(self):
        chance = Chance(54)
        for _ in range(25):
            net = chance.net()
            self.check_curves(net, chance.plan(net), chance.fraction(0, 20))

    def test_rings(self):
        chance = Chance(55)
        self.check_curves(RING_NET, RING, Fraction(9))
        self.check_curves(RING_NET, ring_plan(chance), Fraction(25, 2))

    def test_until_nothing(self):
        for place in range(4):
            self.assertEqual(label_through(N, TWO, place, (0, 5)), curve([(0, 0)], 0))
        self.assertEqual(label_through(N, [], 0, (3, 1)), curve([(0, 0), (3, 3)], 0))

    def test_empty_plan(self):
        self.assertEqual(label_through(N, [], 3, (10, 1)), curve([(0, 3), (7, 10)], 0))

    def test_long_plan(self):
        steps = comers(*[(Fraction(k * k, 6), 200 if k % 2 else Fraction(k, 6)) for k in range(12)])
        told = label_through(N, [([0, 3], steps), ([0, 2, 4], steps), ([1, 4], steps)], 3, (40, 1))
        check_told_curve(self, told)


class LinesByLabelsTest(unittest.TestCase):
    def test_nobody_gains(self):
        # Half of four drops a beat go each way: no way is quicker, and lines are what 7.5 tells.
        plan = [([0, 2, 4], comers((0, 4), (1, 2))), ([1, 4], comers((0, 0), (1, 2)))]
        for moment in (Fraction(0), Fraction(1, 2), 1, 2, Fraction(7, 3), 3):
            labels = labels_through(N, plan, pair(moment), (40, 1))
            for number, (one, other, length, room) in enumerate(N.roads()):
                line = lines(N, plan, (40, 1))[number]
                more = frac(labels[other]) - frac(labels[one]) - length
                self.assertEqual(worth(line, frac(labels[one])), room * max(0, more))


class ErrorsTest(unittest.TestCase):
    def test_in_order(self):
        for thing in (None, 5, "", {}, True, [None], [([0, 3], [])]):
            for call, rest in ((labels_through, (None, None)), (is_labels, (None, None, None)),
                               (quick_way, (None, None)), (quicker, (None, None, None)), (label_through, (None, None))):
                check_error(self, BadPlan, "index", 0, call, N, thing, *rest)
        check_error(self, BadPlan, "index", 2, quicker, N, TWO + TWO, None, None, None)
        for way in ODD + [[0, 2], [2, 4], [False, 3], [5], {0: 0}]:
            check_error(self, BadWay, "thing", way, quicker, N, TWO, way, None, None)
        for place in NO_INTEGERS + [-1, 4, 10 ** 30]:
            check_error(self, BadPlace, "place", place, label_through, N, TWO, place, None)
        for thing in NO_MOMENTS:
            for call, rest in ((labels_through, ()), (quick_way, ()), (is_labels, ({},))):
                check_error(self, BadMoment, "thing", thing, call, N, TWO, thing, None, *rest)
                check_error(self, BadMoment, "thing", thing, call, N, TWO, (1, 1), thing, *rest)
            check_error(self, BadMoment, "thing", thing, quicker, N, TWO, [0, 3], thing, None)
            check_error(self, BadMoment, "thing", thing, quicker, N, TWO, [0, 3], (1, 1), thing)
            check_error(self, BadMoment, "thing", thing, label_through, N, TWO, 0, thing)

    def test_by_names(self):
        self.assertEqual(labels_through(until=(9, 1), moment=(6, 4), plan=(), net=N)[3], (9, 2))
        self.assertTrue(is_labels(thing={0: [4, 2]}, until=(2, 1), moment=(2, 1), plan=TWO, net=N))
        self.assertEqual(quick_way(until=(9, 1), moment=(0, 1), plan=STEADY, net=N), [0, 2, 4])
        self.assertEqual(quicker(until=(9, 1), moment=(9, 1), way=(0, 3), plan=PLAN, net=N), [])
        self.assertEqual(label_through(until=(9, 1), place=0, plan=PLAN, net=N), curve([(0, 0), (9, 9)], 0))

    def test_told_and_passed(self):
        plan = [[[0, 2, 4], [[[0, 1], [4, 1]]]]]
        told = labels_through(N, plan, [3, 1], [20, 1])
        told.clear()
        quicker(N, plan, [0, 2, 4], [3, 1], [20, 1]).clear()
        quick_way(N, plan, [3, 1], [20, 1]).clear()
        label_through(N, plan, 3, [20, 1])[0].clear()
        self.assertEqual(plan, [[[0, 2, 4], [[[0, 1], [4, 1]]]]])
        self.assertEqual(labels_through(N, plan, [3, 1], [20, 1])[3], (7, 1))
        thing = {3: [14, 2], 1: (7, 1), 0: (3, 1), 2: (6, 1)}
        self.assertTrue(is_labels(N, plan, [3, 1], [20, 1], thing))
        self.assertEqual(list(thing.items()), [(3, [14, 2]), (1, (7, 1)), (0, (3, 1)), (2, (6, 1))])


if __name__ == "__main__":
    unittest.main()
