"""11.3 to 11.5: idle roads, roads that harm, chains; and what 11.7 shows of them."""

import unittest
from fractions import Fraction
from itertools import permutations

from quickbythen.changes import harming, idle, is_chain, without_road
from quickbythen.compared import compared, first_later, saved
from quickbythen.errors import BadComers, BadMany, BadRoad, NoWay
from quickbythen.nets import Net, shortest
from quickbythen.phases import label_at, phases
from tests.helpers import (N, NO_INTEGERS, Chance, check_doors, check_error, comers, frac, pair, swapped, unlowered,
                           with_like_neighbours)
from tests.test_compared import L, TWO
from tests.test_cuts import M, any_net
from tests.test_phases import BAD_COMERS, BAD_MANY, FOUR
from tests.test_through import NO_WAY


def idle_by_words(net, told):
    found = []
    for number, (one, other, length, _) in enumerate(net.roads()):
        begins = [labels for _, labels, _, _ in told if one in labels]
        if not any([frac(labels[other]) - frac(labels[one]) >= length for labels in begins]):
            found.append(number)
    return found


def is_chain_by_words(net):
    for row in permutations(range(net.places())):
        if row[0] == net.start() and row[-1] == net.end():
            if all([row.index(other) == row.index(one) + 1 for one, other, _, _ in net.roads()]):
                return True
    return False


class IdleTest(unittest.TestCase):
    def check_idle(self, net, steps, many):
        told = phases(net, steps, many)
        found = idle(net, steps, many)
        self.assertIs(type(found), list)
        self.assertEqual(found, idle_by_words(net, told))
        self.assertEqual(idle(net, swapped(with_like_neighbours(unlowered(steps))), many), found)
        less = net
        for number in found[::-1]:
            less = without_road(less, number)
        # Without all of them moments, labels and slopes are the same.
        self.assertEqual([phase[:3] for phase in phases(less, steps, many)], [phase[:3] for phase in told])
        return len(found)

    def test_samples(self):
        chance = Chance(121)
        found = 0
        for _ in range(60):
            net = chance.net(5, 9)
            steps = chance.comers(3, 9)
            for many in (1, 2, 60):
                found += self.check_idle(net, steps, many)
        self.assertGreater(found, 60)

    def test_example(self):
        self.assertEqual(idle(M, TWO, 9), [])
        self.assertEqual(idle(M, TWO, 1), [1, 3])
        self.assertEqual([idle(M, TWO, many) for many in (2, 3)], [[3], []])
        self.assertEqual(idle(M, comers((0, 1)), 9), [1, 3])

    def test_quick_at_the_begin_though_nobody_goes(self):
        # Both are as quick; nobody comes.
        net = Net(2, [(0, 1, 2, 1), (0, 1, 2, 2), (0, 1, 3, 2)], 0, 1)
        self.assertEqual(idle(net, comers((0, 0)), 9), [2])
        self.assertEqual(idle(net, comers((0, 0), (1, 4), (3, 0)), 9), [2])
        self.assertEqual(idle(net, comers((0, 6)), 1), [2])
        self.assertEqual(idle(net, comers((0, 6)), 2), [])

    def test_roads_that_cannot_be_come_to(self):
        net = Net(4, [(0, 1, 1, 1), (1, 0, 1, 1), (2, 1, 1, 1), (2, 3, 1, 1)], 0, 1)
        self.assertEqual(idle(net, FOUR, 9), [1, 2, 3])


class WithoutRoadTest(unittest.TestCase):
    def test_without(self):
        for number in range(5):
            less = without_road(N, number)
            self.assertEqual(less, Net(4, [road for road in N.roads() if road != N.roads()[number]], 0, 3))
            self.assertEqual(less.roads(), N.roads()[:number] + N.roads()[number + 1:])
        self.assertEqual(len(N.roads()), 5)
        self.assertEqual(without_road(net=M, road=2), L)
        self.assertEqual(without_road(Net(2, [(0, 1, 1, 1)], 0, 1), 0).roads(), [])

    def test_bad_road(self):
        for road in NO_INTEGERS + [-1, 5, (0, 1, 1, 2), [0]]:
            check_error(self, BadRoad, "road", road, without_road, N, road)


class HarmingTest(unittest.TestCase):
    def check_harming(self, net, steps, many):
        found = []
        for number in range(len(net.roads())):
            less = without_road(net, number)
            if less.end() in shortest(less):
                if "earlier" in [word for _, _, word in compared(net, steps, less, steps, many)]:
                    found.append(number)
        told = harming(net, steps, many)
        self.assertIs(type(told), list)
        self.assertEqual(told, found)
        self.assertEqual(harming(net, swapped(unlowered(steps)), many), told)
        return len(told)

    def test_samples(self):
        chance = Chance(122)
        for _ in range(60):
            net = chance.net(4, 8)
            self.check_harming(net, chance.comers(2, 12), chance.random.choice([1, 3, 60]))

    def test_more_of_them(self):
        # Nets as M is, which a road across harms.
        chance = Chance(123)
        found = 0
        for _ in range(15):
            wide = [chance.number(8, 12) for _ in range(3)]
            net = Net(4, [(0, 1, 1, 1), (0, 2, chance.number(3, 5), wide[0]), (1, 2, 1, wide[1]),
                          (1, 3, chance.number(3, 5), wide[2]), (2, 3, 1, 1)], 0, 3)
            found += self.check_harming(net, TWO, 20) > 0
        self.assertGreater(found, 5)

    def test_example(self):
        self.assertEqual(harming(M, TWO, 9), [2])
        self.assertEqual(harming(M, comers((0, 1)), 9), [])
        # By one phase all is known until (2, 1) only, and so long nobody is earlier without road 2.
        self.assertEqual([harming(M, TWO, many) for many in (1, 2, 3)], [[], [2], [2]])

    def test_only_roads_that_leave_a_way(self):
        self.assertEqual(harming(Net(2, [(0, 1, 1, 1)], 0, 1), FOUR, 9), [])


class ChainsTest(unittest.TestCase):
    def test_samples(self):
        chance = Chance(124)
        found = [0, 0]
        for _ in range(400):
            net = any_net(chance, 5, chance.number(0, 5))
            is_one = is_chain_by_words(net)
            self.assertIs(is_chain(net), is_one)
            found[is_one] += 1
        self.assertGreater(min(found), 40)

    def test_by_hand(self):
        for roads, is_one in (([], True), ([(0, 2, 1, 1), (2, 1, 1, 1), (1, 3, 1, 1)], True),
                              ([(0, 2, 1, 1), (0, 2, 1, 2), (2, 1, 7, 1), (1, 3, 1, 1), (1, 3, 2, 1)], True),
                              ([(0, 1, 1, 1), (2, 3, 1, 1)], True), ([(0, 1, 1, 1), (1, 3, 1, 1)], False),
                              ([(0, 3, 1, 1)], False), ([(1, 2, 1, 1), (2, 1, 1, 1)], False), ([(1, 2, 1, 1)], True),
                              ([(0, 1, 1, 1), (1, 2, 1, 1), (0, 2, 1, 1)], False), ([(1, 0, 1, 1)], False),
                              ([(3, 1, 1, 1)], False), ([(0, 1, 1, 1), (2, 1, 1, 1)], False),
                              ([(0, 1, 1, 1), (1, 0, 1, 1)], False), ([(0, 1, 1, 1), (1, 2, 1, 1), (2, 3, 1, 1)], True)):
            net = Net(4, roads, 0, 3)
            self.assertIs(is_chain(net), is_one, roads)
            self.assertEqual(is_chain_by_words(net), is_one)
        self.assertTrue(is_chain(net=Net(2, [(1, 0, 3, 3)], 1, 0)))
        self.assertFalse(is_chain(N))
        self.assertFalse(is_chain(Net(5, [(0, 1, 1, 1), (2, 3, 1, 1), (3, 2, 1, 1)], 0, 4)))

    def better(self, chance, net):
        """Roads more from a place to the next one, wider rooms, shorter lengths."""
        at = chance.number(0, net.places() - 2)
        found = []
        for one, other, length, room in net.roads() + [(at, at + 1, chance.number(1, 4), chance.number(1, 4))]:
            road = (one, other, max(1, length - chance.number(0, 1)), room + chance.number(0, 2))
            while road in found:
                road = (one, other, road[2], road[3] + 1)
            found.append(road)
        return Net(net.places(), found, net.start(), net.end())

    def test_nobody_is_later(self):
        """11.5, of chains that have a way."""
        chance = Chance(125)
        for _ in range(40):
            places = chance.number(2, 4)
            roads = {(at, at + 1, chance.number(1, 4), chance.number(1, 4)) for at in range(places - 1)
                     for _ in range(chance.number(1, 3))}
            net = Net(places, sorted(roads), 0, places - 1)
            other = self.better(chance, net)
            self.assertTrue(is_chain(net) and is_chain(other))
            steps = chance.comers(3, 12)
            fewer = [(moment, pair(frac(rate) * chance.fraction(0, 1))) for moment, rate in steps]
            for many in (1, 4, 60):
                self.assertIsNone(first_later(net, steps, other, steps, many))
                self.assertIsNone(first_later(net, steps, other, fewer, many))
                self.assertIsNone(first_later(net, steps, net, fewer, many))
                for moment in (Fraction(1, 2), 3, 9):
                    told = saved(net, other, steps, pair(moment), many)
                    self.assertTrue(told is None or told[0] >= 0)
            self.assertEqual(harming(net, steps, 9), [])

    def test_across_they_may_be(self):
        self.assertFalse(is_chain(M))
        self.assertIsNotNone(first_later(L, TWO, M, TWO, 9))
        self.assertEqual((label_at(L, TWO, 3, (9, 1), 9), label_at(M, TWO, 3, (9, 1), 9)), ((14, 1), (16, 1)))


class ErrorsTest(unittest.TestCase):
    def test_in_order(self):
        for call in (idle, harming):
            check_doors(self, call, (N, FOUR, 2), [(1, BadComers, "index", BAD_COMERS), (2, BadMany, "many", BAD_MANY)])
            check_error(self, NoWay, "args", (), call, NO_WAY, FOUR, 1)
            check_error(self, BadMany, "many", 0, call, NO_WAY, FOUR, 0)
            check_error(self, BadComers, "index", 1, call, NO_WAY, FOUR + FOUR, 0)

    def test_by_names_and_new(self):
        self.assertEqual(idle(many=1, comers=TWO, net=M), [1, 3])
        self.assertEqual(harming(many=9, comers=[[(0, 1), [4, 2]]], net=M), [2])
        idle(M, TWO, 1).clear()
        harming(M, TWO, 9).clear()
        self.assertEqual((idle(M, TWO, 1), harming(M, TWO, 9)), ([1, 3], [2]))


if __name__ == "__main__":
    unittest.main()
