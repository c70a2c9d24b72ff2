"""8.1 to 8.4: stands and tables; and 8.5."""

import unittest
from fractions import Fraction
from unittest import mock

from quickbythen.errors import BadRate, BadStand, NoWay
from quickbythen.nets import Net
from quickbythen.rising import Rising
from quickbythen.tables import is_stand, is_table, table
from tests.helpers import (N, NO_MOMENTS, ODD, Chance, check_doors, check_error, check_told_dict, frac, other_dicts, pair,
                           reversed_dict, swapped, unlowered)

BAD_STANDS = [thing for thing in ODD if thing != ([], [])] + [
    ([0],), ([0], [], []), ([0, 0], []), ([2], []), ([2, 0], []), ([0], [1]), ([0, 1], [1, 0]), ([0, 1], [1, 1]),
    ([False], []), ([0], [False]), ([0, 5], []), ([-1, 0], []), ("", []), ([0], ""), ({0: 1}, []), ([0], {}),
    {0: [0], 1: []}, ([0, "2"], []), ([(0, 1, 1, 2)], []), ([0, 1], [[0]]), (0, []), ([], [0]), ([3, 4], []), [[], None]]


def quick_parts(net, stand):
    return [(number, *net.roads()[number], number in stand[1]) for number in stand[0]]


def is_table_by_words(net, stand, rate, slopes, goes):
    """8.2, of dicts of fractions."""
    places = {net.start()} | {net.roads()[number][1] for number in stand[0]}
    if set(slopes) != places or slopes[net.start()] != 1 or min(slopes.values()) < 0:
        return False
    if not set(goes) <= set(stand[0]) or any([goes[number] <= 0 for number in goes]):
        return False
    asked = {}
    brought = {place: Fraction(0) for place in range(net.places())}
    left = dict(brought)
    for number, one, other, _, room, is_waiting in quick_parts(net, stand):
        much = goes.get(number, Fraction(0))
        left[one] += much
        brought[other] += much
        ask = much / room if is_waiting else max(much / room, slopes[one])
        asked.setdefault(other, []).append(ask)
        if much and ask != slopes[other]:
            return False
    if any([min(asked[place]) != slopes[place] for place in asked]):
        return False
    if left[net.start()] != rate or brought[net.end()] != rate:
        return False
    return all([left[place] == brought[place] for place in brought if place not in (net.start(), net.end())])


def fractions_of(thing):
    return {key: frac(thing[key]) for key in thing}


def random_stand(chance, many=6, roads=9, rooms=5):
    """A net and a stand of it, with some way perhaps."""
    places = chance.number(2, many)
    order = chance.random.sample(range(places), places)
    found = set()
    for _ in range(chance.number(1, roads)):
        one, other = sorted(chance.random.sample(range(places), 2))
        found.add((order[one], order[other], chance.number(1, 3), chance.number(1, rooms)))
    for _ in range(chance.number(0, 2)):
        found.add((*chance.random.sample(range(places), 2), chance.number(1, 3), chance.number(1, rooms)))
    net = Net(places, sorted(found), order[0], order[chance.number(1, places - 1)])
    quick, known = [], {order[0]}
    for place in order:
        for number, (one, other, _, _) in enumerate(net.roads()):
            if one == place and one in known and order.index(one) < order.index(other) and chance.number(0, 9):
                quick.append(number)
                known.add(other)
    quick = sorted(quick)
    most = chance.random.choice([0, 3, 7, 10])
    return net, (quick, [number for number in quick if chance.number(1, 10) <= most])


class StandsTest(unittest.TestCase):
    def test_good(self):
        for stand in (([], []), ([0], []), ([0], [0]), ([0, 1, 2, 3, 4], [0, 4]), ([1, 4], []), ([0, 2], [2])):
            self.assertIs(is_stand(N, stand), True)
            self.assertIs(is_stand(N, swapped(stand)), True)
        self.assertTrue(is_stand(thing=([], ()), net=Net(2, [], 1, 0)))

    def test_bad(self):
        for thing in BAD_STANDS:
            self.assertIs(is_stand(N, thing), False, thing)

    def test_rings(self):
        net = Net(4, [(0, 1, 1, 1), (1, 2, 1, 1), (2, 1, 1, 1), (2, 3, 1, 1), (3, 0, 1, 1)], 0, 3)
        for quick, is_good in (([0, 1, 3], True), ([0, 1, 2], False), ([0, 1, 3, 4], False), ([0, 1], True), ([2], False),
                               ([0, 3], False), ([1, 2], False), ([1, 2, 3], False), ([4], False)):
            self.assertIs(is_stand(net, (quick, [])), is_good)
            self.assertIs(is_stand(net, (quick, quick)), is_good)

    def test_other_numbers(self):
        # A place that quick roads lead to, whose road stands ahead of them.
        net = Net(3, [(0, 2, 1, 1), (1, 0, 1, 1)], 1, 2)
        self.assertTrue(is_stand(net, ([0, 1], [0])))
        self.assertFalse(is_stand(net, ([0], [])))

    def test_random(self):
        chance = Chance(61)
        for _ in range(100):
            net, stand = random_stand(chance)
            self.assertTrue(is_stand(net, stand))
            numbers = range(len(net.roads()))
            quick = sorted(chance.random.sample(numbers, chance.number(0, len(numbers))))
            roads = [net.roads()[number] for number in quick]
            ahead = {net.start()} | {road[1] for road in roads}
            is_good = all([road[0] in ahead for road in roads])
            left = roads
            for _ in roads:
                left = [road for road in left if road[0] in [other[1] for other in left]]
            self.assertEqual(is_stand(net, (quick, [])), is_good and not left)


class TablesTest(unittest.TestCase):
    def check_table(self, net, stand, rate):
        told = table(net, stand, pair(rate))
        self.assertIs(type(told), tuple)
        slopes, goes = told
        check_told_dict(self, slopes)
        check_told_dict(self, goes)
        self.assertTrue(is_table_by_words(net, stand, rate, fractions_of(slopes), fractions_of(goes)), (net.roads(), stand))
        self.assertIs(is_table(net, stand, pair(rate), told), True)
        self.assertEqual(table(net, swapped(stand), unlowered(pair(rate))), told)
        passed = [{key: list(unlowered(part[key])) for key in list(part)[::-1]} for part in told]
        self.assertIs(is_table(net, swapped(stand), list(unlowered(pair(rate))), passed), True)
        self.check_facts(net, stand, rate, fractions_of(slopes), fractions_of(goes))
        return told

    def check_facts(self, net, stand, rate, slopes, goes):
        """8.3 and 8.4."""
        self.assertLessEqual(max(slopes.values()), max(1, rate))
        for number, one, other, _, room, is_waiting in quick_parts(net, stand):
            much = goes.get(number, 0)
            self.assertLessEqual(much, room * slopes[other])
            if is_waiting or slopes[other] > slopes[one]:
                self.assertEqual(much, room * slopes[other])
            elif slopes[other] < slopes[one]:
                self.assertEqual(much, 0)
        if rate == 0:
            self.assertEqual(goes, {})
            parts = quick_parts(net, stand)
            for place in slopes:
                is_none = [1 for part in parts if part[2] == place and (part[5] or slopes[part[1]] == 0)]
                self.assertEqual(slopes[place], 0 if is_none else 1)

    def rates(self, chance):
        return [Fraction(0), chance.fraction(0, 3), chance.fraction(3, 12), Fraction(chance.number(1, 12000), 60)]

    def test_random(self):
        chance = Chance(62)
        found = 0
        for _ in range(250):
            net, stand = random_stand(chance)
            ends = [net.roads()[number][1] for number in stand[0]]
            last = {}
            for rate in sorted(self.rates(chance)):
                if net.end() not in ends and rate > 0:
                    check_error(self, NoWay, "args", (), table, net, stand, pair(rate))
                    self.assertFalse(is_table(net, stand, pair(rate), ({0: (1, 1)}, {})))
                    continue
                slopes = fractions_of(self.check_table(net, stand, rate)[0])
                self.assertTrue(all([slopes[place] >= last[place] for place in last]))
                last = slopes
                found += rate > 0
        self.assertGreater(found, 300)

    def test_great_rooms_and_bottoms(self):
        chance = Chance(63)
        for _ in range(40):
            net, stand = random_stand(chance, 8, 10, 60)
            if net.end() in [net.roads()[number][1] for number in stand[0]]:
                self.check_table(net, stand, Fraction(chance.number(1, 12000), 60))

    def test_like_roads(self):
        # All alike: many things would happen at once.
        roads = [(one, other, length, 1) for one in range(4) for other in range(one + 1, 4) for length in (1, 2)]
        net = Net(4, roads, 0, 3)
        for waiting in ([], [0, 3, 6], list(range(12)), [4, 5, 10, 11], [0, 2, 4]):
            for rate in (0, 1, 2, 3, Fraction(7, 2), 6, 100):
                self.check_table(net, (list(range(12)), waiting), Fraction(rate))

    def test_waiting_roads_round_two_places(self):
        # 1 and 2 have one slope by the road between them; waiting roads lead from both to 3 and back to 4.
        net = Net(6, [(0, 1, 1, 3), (1, 2, 1, 5), (1, 3, 1, 2), (3, 2, 1, 4), (2, 5, 1, 1), (3, 5, 1, 7), (0, 4, 1, 1),
                      (4, 5, 1, 1), (1, 4, 1, 1)], 0, 5)
        chance = Chance(64)
        for _ in range(60):
            waiting = [number for number in range(9) if chance.number(0, 1)]
            self.check_table(net, (list(range(9)), waiting), chance.fraction(0, 30))

    def test_road_that_is_caught_up(self):
        # The slope of 2 is 5 at many rates, that of 1 rises up to it and goes on with it.
        net = Net(5, [(0, 1, 1, 10), (0, 3, 1, 60), (1, 2, 1, 1), (1, 4, 1, 4), (2, 3, 1, 5), (3, 4, 1, 3)], 0, 4)
        stand = ([0, 1, 2, 3, 4, 5], [3, 4])
        for rate, first, second in ((20, Fraction(23, 14), 5), (70, Fraction(9, 2), 5), (Fraction(315, 4), 5, 5),
                                    (100, Fraction(435, 70), Fraction(435, 70))):
            slopes = self.check_table(net, stand, Fraction(rate))[0]
            self.assertEqual((slopes[1], slopes[2]), (pair(first), pair(second)))

    def test_many_at_once(self):
        # What is done first takes too little or nothing more than what is asked for: then two roads turn at once.
        roads = [(0, 1, 1, 1), (0, 2, 1, 1), (1, 3, 1, 1), (2, 3, 1, 1)]
        stands = [(roads, ([0, 1, 2, 3], [])), (roads + [(1, 2, 1, 1)], ([0, 1, 2, 3, 4], [2])),
                  ([(0, 1, length, 1) for length in (1, 2, 3)], ([0, 1, 2], []))]
        begin = Rising.begin
        for size in (0, 1 << 3, 1 << 200):
            def begin_otherwise(rising, turn):
                begin(rising, turn)
                if turn == 1:
                    rising.unit = size or 1
                    rising.nudges = [1 if size else 0 for _ in rising.nudges]
                    rising.sheds = [rising.unit if place == rising.end else 0 for place in range(rising.many)]
                    rising.begin_sorts()
            with mock.patch.object(Rising, "begin", begin_otherwise):
                for found, stand in stands:
                    net = Net(1 + max([road[1] for road in found]), found, 0, max([road[1] for road in found]))
                    for rate in (1, 2, Fraction(7, 2), 9):
                        self.check_table(net, stand, Fraction(rate))

    def test_example(self):
        self.assertEqual(table(N, ([0, 1, 2, 4], [0]), (4, 1)),
                         ({0: (1, 1), 1: (1, 1), 2: (1, 1), 3: (2, 1)}, {0: (2, 1), 1: (2, 1), 2: (2, 1), 4: (4, 1)}))
        self.assertEqual(table(N, ([0, 2, 4], []), (4, 1)),
                         ({0: (1, 1), 1: (2, 1), 2: (2, 1), 3: (2, 1)}, {0: (4, 1), 2: (4, 1), 4: (4, 1)}))

    def test_end_in_the_middle(self):
        # A quick road leads on from the end: nothing goes on it, and its end has a slope all the same.
        net = Net(3, [(0, 1, 1, 2), (1, 2, 1, 1)], 0, 1)
        for waiting, last in (([], 3), ([1], 0), ([0, 1], 0), ([0], 3)):
            self.assertEqual(table(net, ([0, 1], waiting), (6, 1)), ({0: (1, 1), 1: (3, 1), 2: (last, 1)}, {0: (6, 1)}))
            self.check_table(net, ([0, 1], waiting), Fraction(6))

    def test_end_that_is_no_place(self):
        for rate in ((1, 1), (1, 100)):
            check_error(self, NoWay, "args", (), table, N, ([0], []), rate)
            self.assertFalse(is_table(N, ([0], []), rate, table(N, ([0], []), (0, 1))))
        self.assertEqual(table(N, ([0], [0]), (0, 9)), ({0: (1, 1), 1: (0, 1)}, {}))
        self.assertEqual(table(N, ([], []), (0, 9)), ({0: (1, 1)}, {}))
        self.assertTrue(is_table(N, ([], []), (0, 9), ({0: (1, 1)}, {})))

    def test_goes_that_are_free(self):
        net = Net(2, [(0, 1, 1, 2), (0, 1, 2, 2)], 0, 1)
        stand = ([0, 1], [])
        for first, is_right in ((0, False), (1, True), (2, True), (Fraction(3, 2), True), (3, False)):
            goes = {number: pair(much) for number, much in ((0, first), (1, 3 - first)) if much}
            self.assertIs(is_table(net, stand, (3, 1), ({0: (1, 1), 1: (1, 1)}, goes)), is_right)
        self.assertTrue(is_table(net, stand, (2, 1), ({0: (1, 1), 1: (1, 1)}, {1: (2, 1)})))
        self.assertFalse(is_table(net, stand, (2, 1), ({0: (1, 1), 1: (1, 1)}, {1: (2, 1), 0: (0, 1)})))

    def test_goes_on_roads_that_are_not_quick(self):
        net = Net(2, [(0, 1, 1, 2), (0, 1, 2, 2)], 0, 1)
        self.assertTrue(is_table(net, ([1], []), (1, 1), ({0: (1, 1), 1: (1, 1)}, {1: (1, 1)})))
        self.assertFalse(is_table(net, ([1], []), (1, 1), ({0: (1, 1), 1: (1, 1)}, {0: (1, 1)})))
        self.assertFalse(is_table(net, ([1], []), (1, 1), ({0: (1, 1), 1: (1, 1)}, {0: (1, 2), 1: (1, 2)})))

    def test_is_table_of_others(self):
        for stand, rate in ((([0, 1, 2, 4], [0]), (4, 1)), (([0, 1, 2, 3, 4], []), (5, 2)), (([0, 1], []), (0, 1))):
            slopes, goes = table(N, stand, rate)
            self.assertTrue(is_table(N, stand, rate, [reversed_dict(slopes), reversed_dict(goes)]))
            for thing in ODD + [(slopes,), (slopes, goes, {}), (goes, slopes), {0: slopes, 1: goes}, (slopes, None)]:
                if thing != (goes, slopes) or goes != slopes:
                    self.assertIs(is_table(N, stand, rate, thing), False)
            for other in other_dicts(slopes):
                self.assertIs(is_table(N, stand, rate, (other, goes)), False)
            for other in other_dicts(goes) + [{**goes, 0: (0, 1)}, {**goes, 0: (-1, 1)}, {5: (1, 1)}]:
                self.assertIs(is_table(N, stand, rate, (slopes, other)), False, other)

    def test_just_one(self):
        chance = Chance(65)
        found = [0, 0]
        while min(found) < 60:
            net, stand = random_stand(chance, 4, 5, 3)
            rate = chance.fraction(0, 5)
            if net.end() not in [net.roads()[number][1] for number in stand[0]]:
                continue
            slopes, goes = [fractions_of(part) for part in table(net, stand, pair(rate))]
            for _ in range(3):
                key = chance.random.choice(sorted(slopes))
                if chance.number(0, 1):
                    slopes[key] = max(0, slopes[key] + chance.fraction(-1, 1))
                key = chance.random.choice(stand[0])
                goes[key] = goes.get(key, 0) + chance.random.choice([0, 1, -1, Fraction(1, 2)])
                goes = {number: goes[number] for number in goes if goes[number] > 0}
                is_right = is_table_by_words(net, stand, rate, slopes, goes)
                found[is_right] += 1
                thing = tuple([{one: pair(part[one]) for one in part} for part in (slopes, goes)])
                self.assertEqual(is_table(net, stand, pair(rate), thing), is_right)


class ErrorsTest(unittest.TestCase):
    def test_in_order(self):
        good = (N, ([0, 2, 4], []), (1, 1))
        check_doors(self, table, good, [(1, BadStand, "thing", BAD_STANDS), (2, BadRate, "thing", NO_MOMENTS)])
        check_doors(self, is_table, good + (None,), [(1, BadStand, "thing", BAD_STANDS),
                                                     (2, BadRate, "thing", NO_MOMENTS)])
        check_error(self, BadRate, "thing", None, table, N, ([0], []), None)

    def test_by_names(self):
        self.assertEqual(table(rate=(8, 2), stand=[(0, 2, 4), ()], net=N)[0][3], (2, 1))
        self.assertFalse(is_table(thing=None, rate=(8, 2), stand=[(0, 2, 4), ()], net=N))

    def test_told_and_passed(self):
        stand = [[0, 2, 4], []]
        slopes, goes = table(N, stand, [4, 1])
        slopes.clear()
        goes.clear()
        self.assertEqual(stand, [[0, 2, 4], []])
        self.assertEqual(table(N, stand, [4, 1])[1], {0: (4, 1), 2: (4, 1), 4: (4, 1)})


if __name__ == "__main__":
    unittest.main()
