"""3.1 nets, 3.3 ways and shortest lengths, 3.5 the example; 2.1 to 2.3 of them."""

import itertools
import unittest

from quickbythen.errors import BadEnd, BadPlaces, BadRoads, BadStart
from quickbythen.nets import Net, is_way, shortest, ways
from tests.helpers import N, NO_INTEGERS, ODD, Chance, all_ways, check_error, swapped

ROADS = [(0, 1, 1, 2), (0, 2, 3, 3), (1, 2, 1, 2), (1, 3, 4, 1), (2, 3, 1, 2)]


class NetTest(unittest.TestCase):
    def test_asked(self):
        self.assertEqual(N.places(), 4)
        self.assertEqual(N.roads(), ROADS)
        self.assertEqual((N.start(), N.end()), (0, 3))
        other = Net(9, [], 8, 7)
        self.assertEqual((other.places(), other.roads(), other.start(), other.end()), (9, [], 8, 7))

    def test_roads_ascend(self):
        for roads in itertools.permutations(ROADS[:4]):
            self.assertEqual(Net(4, list(roads), 0, 3).roads(), ROADS[:4])
        # Two roads between the same places, of which one differs from the other by its room, or its length alone.
        roads = [(1, 0, 2, 1), (0, 1, 2, 1), (0, 1, 1, 2), (0, 1, 1, 1)]
        self.assertEqual(Net(2, roads, 1, 0).roads(), roads[::-1])

    def test_kinds(self):
        net = Net(4, tuple([list(road) for road in ROADS]), 0, 3)
        self.assertEqual(net, N)
        self.assertIs(type(net.roads()), list)
        for road in net.roads():
            self.assertIs(type(road), tuple)

    def test_by_names(self):
        self.assertEqual(Net(places=4, roads=ROADS, start=0, end=3), N)
        self.assertEqual(Net(end=3, start=0, roads=ROADS, places=4), N)

    def test_equal(self):
        self.assertTrue(N == Net(4, ROADS[::-1], 0, 3))
        self.assertFalse(N != Net(4, ROADS, 0, 3))
        for other in (Net(5, ROADS, 0, 3), Net(4, ROADS[1:], 0, 3), Net(4, ROADS, 1, 3), Net(4, ROADS, 0, 2),
                      Net(4, ROADS[:4] + [(2, 3, 1, 3)], 0, 3)):
            self.assertFalse(N == other)
            self.assertTrue(N != other)
        for thing in ODD:
            if thing is not N:
                self.assertFalse(N == thing)
                self.assertTrue(N != thing)
        self.assertFalse(N == (4, ROADS, 0, 3))

    def test_what_is_passed_later_changes(self):
        roads = [[0, 1, 1, 2], [1, 2, 1, 2]]
        net = Net(3, roads, 0, 2)
        roads[0][2] = 9
        roads.append([0, 2, 1, 1])
        self.assertEqual(net.roads(), [(0, 1, 1, 2), (1, 2, 1, 2)])

    def test_what_is_passed_stays(self):
        roads = [[1, 2, 1, 2], [0, 1, 1, 2]]
        Net(3, roads, 0, 2)
        self.assertEqual(roads, [[1, 2, 1, 2], [0, 1, 1, 2]])

    def test_what_is_told_is_new(self):
        told = N.roads()
        told.clear()
        self.assertEqual(N.roads(), ROADS)
        self.assertIsNot(N.roads(), N.roads())

    def test_bad_places(self):
        for places in NO_INTEGERS + [1, 0, -1, [2]]:
            check_error(self, BadPlaces, "places", places, Net, places, 0, True, None)

    def test_bad_roads(self):
        good = [(0, 1, 1, 2), (0, 2, 3, 3)]
        for road in ODD + [(0, 1, 1), (0, 1, 1, 2, 3), (0, 4, 1, 1), (4, 0, 1, 1), (-1, 0, 1, 1), (0, -1, 1, 1),
                           (2, 2, 1, 1), (0, 1, 0, 1), (0, 1, 1, 0), (0, 1, -1, 1), (0, 1, 1, -1), (True, 0, 1, 1),
                           (0, True, 1, 1), (0, 1, True, 1), (0, 1, 1, True), (False, 1, 1, 1), (0, 1, "1", 1),
                           (0, 1, 1, (1, 1)), [0, 1, 1, None], {0: 0, 1: 1, 2: 1, 3: 1}, "0111"]:
            check_error(self, BadRoads, "index", 2, Net, 4, good + [road, 5], 9, 9)
            check_error(self, BadRoads, "index", 0, Net, 4, [road], 9, 9)

    def test_road_that_stood_before(self):
        for road in ((0, 1, 1, 2), [0, 1, 1, 2]):
            check_error(self, BadRoads, "index", 2, Net, 4, [(0, 1, 1, 2), (1, 2, 1, 2), road, road], 0, 3)
        Net(4, [(0, 1, 1, 2), (0, 1, 1, 3), (0, 1, 2, 2), (1, 0, 1, 2)], 0, 3)

    def test_no_list_of_roads(self):
        for roads in (None, 5, "", "road", {}, {0: ROADS[0]}, True, len, N):
            check_error(self, BadRoads, "index", 0, Net, 4, roads, 9, 9)

    def test_bad_start_and_end(self):
        for place in NO_INTEGERS + [-1, 4, 5, [0]]:
            check_error(self, BadStart, "place", place, Net, 4, ROADS, place, place)
            check_error(self, BadEnd, "place", place, Net, 4, ROADS, 0, place)
        check_error(self, BadEnd, "place", 2, Net, 4, ROADS, 2, 2)
        check_error(self, BadEnd, "place", False, Net, 4, ROADS, 1, False)

    def test_order_of_errors(self):
        check_error(self, BadPlaces, "places", 1, Net, 1, None, None, None)
        check_error(self, BadRoads, "index", 0, Net, 2, None, None, None)
        check_error(self, BadStart, "place", None, Net, 2, [], None, 1)
        check_error(self, BadEnd, "place", None, Net, 2, [], 0, None)


class WaysTest(unittest.TestCase):
    def test_example(self):
        self.assertEqual(ways(N), [[0, 2, 4], [0, 3], [1, 4]])
        self.assertEqual(shortest(N), {0: (0, 1), 1: (1, 1), 2: (2, 1), 3: (3, 1)})

    def test_by_names(self):
        self.assertEqual(ways(net=N), ways(N))
        self.assertEqual(shortest(net=N), shortest(N))
        self.assertTrue(is_way(net=N, thing=[0, 3]))

    def test_no_way(self):
        net = Net(4, [(0, 1, 2, 1), (3, 2, 1, 1)], 0, 3)
        self.assertEqual(ways(net), [])
        self.assertEqual(shortest(net), {0: (0, 1), 1: (2, 1)})
        self.assertEqual(ways(Net(2, [], 0, 1)), [])
        self.assertEqual(shortest(Net(2, [], 1, 0)), {1: (0, 1)})

    def test_no_way_back_to_the_start_or_on_from_the_end(self):
        net = Net(3, [(0, 1, 1, 1), (0, 2, 1, 1), (1, 0, 1, 1), (2, 1, 1, 1)], 0, 2)
        self.assertEqual(ways(net), [[1]])
        for way in ([0, 2, 1], [1, 3, 2, 1], [1, 3], [0], [0, 2]):
            self.assertFalse(is_way(net, way))
        self.assertEqual(shortest(net), {0: (0, 1), 1: (1, 1), 2: (1, 1)})

    def test_start_above_end(self):
        net = Net(4, [(3, 2, 5, 1), (3, 1, 1, 1), (1, 2, 2, 1), (2, 0, 1, 1)], 3, 0)
        self.assertEqual(net.roads(), [(1, 2, 2, 1), (2, 0, 1, 1), (3, 1, 1, 1), (3, 2, 5, 1)])
        self.assertEqual(ways(net), [[2, 0, 1], [3, 1]])
        told = shortest(net)
        self.assertEqual(told, {0: (4, 1), 1: (1, 1), 2: (3, 1), 3: (0, 1)})
        self.assertEqual(list(told), [0, 1, 2, 3])

    def test_told_kinds(self):
        for way in ways(N):
            self.assertIs(type(way), list)
        ways(N)[0].append(7)
        self.assertEqual(ways(N), [[0, 2, 4], [0, 3], [1, 4]])
        told = shortest(N)
        told.clear()
        self.assertEqual(len(shortest(N)), 4)
        self.assertIs(type(shortest(N)[3]), tuple)

    def test_is_way(self):
        for way in ways(N):
            self.assertTrue(is_way(N, way))
            self.assertTrue(is_way(N, tuple(way)))
            self.assertFalse(is_way(N, way + [4]))
            self.assertFalse(is_way(N, way[:-1]))
            self.assertFalse(is_way(N, way[1:]))
        for thing in ODD + [[0, 2, 5], [0, -2], [-5, 2, 4], [False, 3], [0, 2, 2, 4], [0, 4], [2, 4], [1, 3],
                            ["0", "3"], {0: 0, 1: 3}, [(0, 1), 3], [0, [3]], "03"]:
            self.assertIs(is_way(N, thing), False)
        self.assertIs(is_way(N, [1, 4]), True)
        self.assertFalse(is_way(N, [True, 4]))

    def test_all_lists(self):
        chance = Chance(1)
        for _ in range(40):
            net = chance.net(4, 5)
            many = len(net.roads())
            told = ways(net)
            self.assertEqual(told, all_ways(net))
            for length in range(0, 5):
                for thing in itertools.product(range(many), repeat=length):
                    self.assertEqual(is_way(net, list(thing)), list(thing) in told)

    def test_shortest_is_least(self):
        chance = Chance(2)
        for _ in range(200):
            net = chance.net(6, 10)
            told = shortest(net)
            self.assertEqual(list(told), sorted(told))
            self.assertEqual(told[net.start()], (0, 1))
            for one, other, length, _ in net.roads():
                if one in told:
                    self.assertLessEqual(told[other][0], told[one][0] + length)
            for place in told:
                if place != net.start():
                    least = [told[one][0] + length for one, other, length, _ in net.roads()
                             if other == place and one in told]
                    self.assertEqual(told[place], (min(least), 1))
            self.assertIn(net.end(), told)
            whole = [sum([net.roads()[number][2] for number in way]) for way in ways(net)]
            self.assertEqual(told[net.end()], (min(whole), 1))

    def test_greatest_nets(self):
        places = 8
        net = Net(places, [(0, 1, 20, 60), (1, 2, 1, 1), (2, 3, 1, 1), (3, 4, 1, 1), (4, 5, 1, 1), (5, 6, 1, 1),
                           (6, 7, 1, 1), (0, 6, 20, 1), (6, 1, 1, 1), (5, 7, 20, 60)], 0, 7)
        self.assertEqual(ways(net), all_ways(net))
        self.assertEqual(shortest(net)[7], (21, 1))
        self.assertEqual(swapped(swapped(ways(net))), ways(net))


if __name__ == "__main__":
    unittest.main()
