"""10.1: cuts and flows; and what 10.6 shows of them."""

import unittest
from fractions import Fraction
from itertools import combinations

from quickbythen.cuts import flow_within, is_cut, is_flow, least_cut, room_of
from quickbythen.errors import BadRate
from quickbythen.nets import Net
from quickbythen.refusals import BadCut
from tests.helpers import (N, NO_MOMENTS, ODD, Chance, check_doors, check_error, check_told_dict, frac, other_dicts, pair,
                           reversed_dict, unlowered)
from tests.test_through import NO_WAY

M = Net(4, [(0, 1, 1, 1), (0, 2, 4, 10), (1, 2, 1, 10), (1, 3, 4, 10), (2, 3, 1, 1)], 0, 3)
BAD_CUTS = [thing for thing in ODD if thing != (0,)] + [
    [0, 0], [1, 0], [0, 3], [1], [1, 2], [0, 1, 4], [0, 1, 1], [0, True], [False], [False, 1], [-1, 0], [0, 1, 2, 3],
    {0: 1}, "0", [0, None], [0, (1,)], [[0]], (0, 2, 1)]


def round_net(room):
    """A short way across two long ones, which it shuts if it is full."""
    ends = [(0, 1), (0, 3), (1, 2), (1, 5), (2, 7), (3, 4), (4, 2), (5, 6), (6, 7)]
    return Net(8, [(one, other, 1, room) for one, other in ends], 0, 7)


def any_net(chance, places=6, roads=10, rooms=6):
    many = chance.number(2, places)
    found = {(*chance.random.sample(range(many), 2), chance.number(1, 4), chance.number(1, rooms))
             for _ in range(chance.number(0, roads))}
    return Net(many, sorted(found), *chance.random.sample(range(many), 2))


def all_cuts(net):
    others = [place for place in range(net.places()) if place not in (net.start(), net.end())]
    return [sorted(some + (net.start(),)) for many in range(len(others) + 1) for some in combinations(others, many)]


def room_by_words(net, cut):
    return sum([room for one, other, _, room in net.roads() if one in cut and other not in cut])


def is_flow_by_words(net, rate, goes):
    if not all([number in range(len(net.roads())) and goes[number] > 0 for number in goes]):
        return False
    for place in range(net.places()):
        more = sum([goes[number] for number in goes if net.roads()[number][0] == place])
        more -= sum([goes[number] for number in goes if net.roads()[number][1] == place])
        if more != (rate if place == net.start() else -rate if place == net.end() else 0):
            return False
    return True


class CutsTest(unittest.TestCase):
    def test_is_cut(self):
        for cut in ([0], [0, 1], [0, 2], [0, 1, 2]):
            self.assertIs(is_cut(N, cut), True)
            self.assertIs(is_cut(N, tuple(cut)), True)
        for thing in BAD_CUTS:
            self.assertIs(is_cut(N, thing), False)
            check_error(self, BadCut, "thing", thing, room_of, N, thing)
        self.assertTrue(is_cut(Net(3, [], 2, 0), [1, 2]))
        self.assertTrue(is_cut(net=Net(3, [], 2, 0), thing=(2,)))
        self.assertFalse(is_cut(Net(3, [], 2, 0), [0, 2]))

    def test_room_of(self):
        self.assertEqual([room_of(N, cut) for cut in ([0], [0, 1], [0, 2], [0, 1, 2])], [5, 6, 4, 3])
        # Roads back, and roads that lead to the start, let in nothing.
        net = Net(3, [(0, 1, 1, 2), (1, 0, 1, 50), (1, 2, 1, 3), (2, 1, 1, 70), (2, 0, 1, 90)], 0, 2)
        self.assertEqual([room_of(net=net, cut=cut) for cut in ([0], (0, 1))], [2, 3])

    def test_least_cut(self):
        chance = Chance(91)
        without = 0
        for _ in range(200):
            net = any_net(chance)
            rooms = {tuple(cut): room_by_words(net, cut) for cut in all_cuts(net)}
            least = [cut for cut in rooms if rooms[cut] == min(rooms.values())]
            told = least_cut(net)
            self.assertIs(type(told), list)
            self.assertEqual(tuple(told), min(least, key=len))
            self.assertTrue(all([set(told) <= set(cut) for cut in least]))
            self.assertEqual(room_of(net, told), min(rooms.values()))
            self.assertIs(type(room_of(net, told)), int)
            without += rooms[tuple(told)] == 0
        self.assertGreater(without, 20)

    def test_example(self):
        self.assertEqual(least_cut(N), [0, 1, 2])
        self.assertEqual(room_of(N, [0, 1, 2]), 3)
        self.assertEqual(least_cut(net=M), [0, 2])
        self.assertEqual(room_of(M, [0, 2]), 2)

    def test_no_way(self):
        self.assertEqual(least_cut(NO_WAY), [0, 1])
        self.assertEqual(least_cut(Net(3, [], 1, 0)), [1])
        least_cut(N).clear()
        self.assertEqual(least_cut(N), [0, 1, 2])


class FlowsTest(unittest.TestCase):
    def check_flow(self, net, rate):
        told = flow_within(net, pair(rate))
        self.assertEqual(flow_within(net, unlowered(pair(rate))), told)
        room = min([room_by_words(net, cut) for cut in all_cuts(net)])
        # Just one of both: a flow, or the rate is above the room of least_cut.
        self.assertEqual(told is None, rate > room)
        if told is None:
            return 0
        check_told_dict(self, told)
        goes = {number: frac(told[number]) for number in told}
        self.assertTrue(is_flow_by_words(net, rate, goes))
        self.assertTrue(all([goes[number] <= net.roads()[number][3] for number in goes]))
        self.assertIs(is_flow(net, pair(rate), told), True)
        passed = {number: list(unlowered(told[number])) for number in list(told)[::-1]}
        self.assertIs(is_flow(net, list(unlowered(pair(rate))), passed), True)
        return 1

    def test_samples(self):
        chance = Chance(92)
        found = [0, 0]
        for _ in range(150):
            net = any_net(chance)
            room = min([room_by_words(net, cut) for cut in all_cuts(net)])
            for rate in (Fraction(0), chance.fraction(0, 9), Fraction(room), room + Fraction(1, 60), room * Fraction(59, 60)):
                found[self.check_flow(net, rate)] += 1
        self.assertGreater(min(found), 100)

    def test_long_ways_round_a_short_one(self):
        # The shortest way, [0, 2, 4], has to be left again for both of the others to have room.
        for room in (1, 3):
            self.assertEqual(room_of(round_net(room), least_cut(round_net(room))), 2 * room)
            for rate in (room, Fraction(3, 2) * room, 2 * room):
                self.assertEqual(self.check_flow(round_net(room), Fraction(rate)), 1)
            self.assertEqual(self.check_flow(round_net(room), Fraction(2 * room) + Fraction(1, 7)), 0)

    def test_nothing(self):
        for net in (N, NO_WAY, Net(2, [], 0, 1)):
            self.assertEqual(flow_within(net, (0, 7)), {})
            self.assertTrue(is_flow(net, (0, 7), {}))
            self.assertFalse(is_flow(net, (1, 7), {}))
        self.assertIsNone(flow_within(NO_WAY, (1, 10 ** 6)))

    def test_just_one(self):
        chance = Chance(93)
        found = [0, 0]
        while min(found) < 40:
            net = any_net(chance, 4, 6)
            rate = chance.fraction(0, 3)
            told = flow_within(net, pair(rate))
            if not told:
                continue
            goes = {number: frac(told[number]) for number in told}
            for _ in range(3):
                for number in chance.random.sample(range(len(net.roads())), min(2, len(net.roads()))):
                    goes[number] = goes.get(number, 0) + chance.random.choice([0, 0, 1, -1])
                kept = {number: goes[number] for number in goes if goes[number]}
                is_right = is_flow_by_words(net, rate, kept)
                found[is_right] += 1
                self.assertEqual(is_flow(net, pair(rate), {number: pair(kept[number]) for number in kept}), is_right)

    def test_rings_and_rooms(self):
        # Flows may go round a ring, and above rooms.
        net = Net(4, [(0, 1, 1, 1), (1, 2, 1, 1), (2, 1, 1, 1), (2, 3, 1, 1), (3, 0, 1, 1)], 0, 3)
        self.assertTrue(is_flow(net, (1, 1), {0: (1, 1), 1: (9, 1), 2: (8, 1), 3: (1, 1)}))
        self.assertTrue(is_flow(net, (1, 1), {0: (5, 1), 1: (5, 1), 3: (5, 1), 4: (4, 1)}))
        self.assertTrue(is_flow(net, (0, 1), {1: (1, 2), 2: (1, 2)}))
        self.assertFalse(is_flow(net, (0, 1), {1: (1, 2), 2: (1, 3)}))
        # Roads that can't be come to may go round a ring, too.
        self.assertTrue(is_flow(Net(4, [(0, 1, 1, 1), (2, 3, 1, 1), (3, 2, 1, 1)], 0, 1), (1, 1),
                                {0: (1, 1), 1: (3, 1), 2: (3, 1)}))

    def test_is_flow_of_others(self):
        for net, rate in ((N, (3, 1)), (N, (1, 2)), (M, (2, 1))):
            told = flow_within(net, rate)
            self.assertTrue(is_flow(net, rate, reversed_dict(told)))
            for thing in ODD + other_dicts(told) + [{0: (0, 1)}, {**told, 5: (0, 1)}, {**told, 5: (1, 1)}]:
                if not (thing == {} and rate == (0, 1)):
                    self.assertIs(is_flow(net, rate, thing), False, thing)
        self.assertFalse(is_flow(N, (0, 1), {0: (0, 1)}))

    def test_example(self):
        self.assertIsNotNone(flow_within(N, (3, 1)))
        self.assertIsNone(flow_within(N, (301, 100)))

    def test_errors(self):
        check_doors(self, flow_within, (N, (1, 1)), [(1, BadRate, "thing", NO_MOMENTS)])
        check_doors(self, is_flow, (N, (1, 1), None), [(1, BadRate, "thing", NO_MOMENTS)])
        self.assertEqual(is_flow(thing={1: (2, 2), 4: [1, 1]}, rate=[3, 3], net=N), True)
        flow_within(rate=(1, 1), net=N).clear()
        self.assertTrue(flow_within(N, (1, 1)))


if __name__ == "__main__":
    unittest.main()
