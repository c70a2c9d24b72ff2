"""10.2 to 10.4: resting tables, levels, lines for ever; across section 9; and what 10.6 shows of them."""

import unittest
from fractions import Fraction

from quickbythen.cuts import flow_within, is_cut, least_cut, room_of
from quickbythen.errors import BadRate, NoWay
from quickbythen.nets import Net
from quickbythen.phases import line_at, phases, rests
from quickbythen.resting import growing, is_resting, levels, resting
from tests.helpers import (N, NO_MOMENTS, ODD, Chance, check_doors, check_error, check_told_dict, comers, frac,
                           other_dicts, pair, reached, reversed_dict, rows_to, unlowered)
from tests.test_cuts import M, is_flow_by_words, round_net
from tests.test_tables import fractions_of
from tests.test_through import NO_WAY


def is_resting_by_words(net, rate, slopes, goes):
    """10.2, of dicts of fractions."""
    if not is_flow_by_words(net, rate, goes) or set(slopes) != set(reached(net)) or slopes[net.start()] != 1:
        return False
    roads = net.roads()
    for place in slopes:
        asked = [max([Fraction(1)] + [goes.get(number, 0) / Fraction(roads[number][3]) for number in row])
                 for row in rows_to(net, place)]
        if min(asked) != slopes[place]:
            return False
    for number in goes:
        one, other, _, room = roads[number]
        if one not in slopes or slopes[other] != max(slopes[one], goes[number] / room):
            return False
    return True


def rates_for(chance, net):
    room = room_of(net, least_cut(net))
    return [Fraction(0), Fraction(room), room + Fraction(1, 60), chance.fraction(0, 2 * room), chance.fraction(room, 40)]


class RestingTest(unittest.TestCase):
    def check_resting(self, net, rate):
        told = resting(net, pair(rate))
        self.assertIs(type(told), tuple)
        for part in told:
            check_told_dict(self, part)
        slopes, goes = [fractions_of(part) for part in told]
        self.assertTrue(is_resting_by_words(net, rate, slopes, goes))
        self.assertIs(is_resting(net, pair(rate), told), True)
        self.assertEqual(resting(net, unlowered(pair(rate))), told)
        passed = [{key: list(unlowered(part[key])) for key in list(part)[::-1]} for part in told]
        self.assertIs(is_resting(net, list(unlowered(pair(rate))), passed), True)
        self.check_levels(net, rate, slopes)
        self.check_growing(net, rate, slopes)
        return told

    def check_levels(self, net, rate, slopes):
        told = levels(net, pair(rate))
        self.assertEqual(levels(net, unlowered(pair(rate))), told)
        values = sorted(set(slopes.values()))
        self.assertEqual(told, [(pair(value), [place for place in sorted(slopes) if slopes[place] == value])
                                for value in values])
        self.assertTrue(all([type(level) is tuple for level in told]))
        cut = least_cut(net)
        self.assertEqual(told[0][0], (1, 1))
        self.assertEqual(frac(told[-1][0]), max(1, rate / room_of(net, cut)))
        self.assertIn(net.end(), told[-1][1])
        if len(told) > 1:
            self.assertEqual(sorted([place for _, places in told[:-1] for place in places]), cut)
        for many in range(1, len(told)):
            near = sorted([place for _, places in told[:many] for place in places])
            self.assertTrue(is_cut(net, near))
            self.assertEqual(sum([room * slopes[other] for one, other, _, room in net.roads()
                                  if one in near and other in slopes and other not in near]), rate)
        return len(told)

    def check_growing(self, net, rate, slopes):
        told = growing(net, pair(rate))
        check_told_dict(self, told)
        wanted = {number: pair(room * (slopes[other] - slopes[one]) / slopes[one])
                  for number, (one, other, _, room) in enumerate(net.roads()) if one in slopes and slopes[one] < slopes[other]}
        self.assertEqual(told, wanted)
        self.assertEqual(growing(net, unlowered(pair(rate))), told)
        self.assertEqual(told == {}, rate <= room_of(net, least_cut(net)))

    def test_samples(self):
        chance = Chance(94)
        found = {}
        for _ in range(120):
            net = chance.net(6, 10)
            for rate in rates_for(chance, net):
                told = self.check_resting(net, rate)
                many = len(set(told[0].values()))
                found[many] = found.get(many, 0) + 1
        self.assertGreater(found[3], 10)

    def test_many_levels(self):
        # A row of ever narrower roads, and a place off the row.
        net = Net(6, [(0, 1, 1, 5), (1, 2, 1, 4), (2, 3, 1, 3), (3, 4, 1, 2), (1, 5, 1, 9), (4, 5, 1, 1)], 0, 4)
        self.assertEqual(levels(net, (10, 1)), [((1, 1), [0]), ((2, 1), [1, 5]), ((5, 2), [2]), ((10, 3), [3]),
                                                ((5, 1), [4])])
        self.assertEqual(levels(net, (9, 2)), [((1, 1), [0, 1, 5]), ((9, 8), [2]), ((3, 2), [3]), ((9, 4), [4])])
        self.check_resting(net, Fraction(10))
        self.assertEqual(growing(net, (10, 1)), {0: (5, 1), 1: (1, 1), 3: (1, 1), 4: (1, 1)})

    def test_long_ways_round_a_short_one(self):
        for room in (1, 3):
            for part in (1, Fraction(3, 2), 2, Fraction(5, 2), 9):
                self.check_resting(round_net(room), part * room)
            self.assertEqual(levels(round_net(room), (9 * room, 1))[-1][0], (9, 2))

    def test_places_behind_the_end_and_off_all_ways(self):
        net = Net(6, [(0, 1, 1, 2), (1, 2, 1, 1), (1, 3, 1, 1), (4, 1, 1, 9), (4, 5, 1, 9), (5, 4, 1, 9)], 0, 1)
        self.assertEqual(levels(net, (6, 1)), [((1, 1), [0]), ((3, 1), [1, 2, 3])])
        self.check_resting(net, Fraction(6))
        slopes, goes = resting(net, (6, 1))
        self.assertFalse(is_resting(net, (6, 1), (slopes, {**goes, 4: (1, 1), 5: (1, 1)})))

    def test_any_goes(self):
        slopes = {0: (1, 1), 1: (1, 1), 2: (1, 1), 3: (4, 3)}
        self.assertTrue(is_resting(N, (4, 1), (slopes, {0: (2, 1), 1: (2, 1), 2: (2, 3), 3: (4, 3), 4: (8, 3)})))
        self.assertTrue(is_resting(N, (4, 1), (slopes, {0: (3, 2), 1: (5, 2), 2: (1, 6), 3: (4, 3), 4: (8, 3)})))
        self.assertFalse(is_resting(N, (4, 1), (slopes, {0: (3, 1), 1: (1, 1), 2: (5, 3), 3: (4, 3), 4: (8, 3)})))
        # A ring may go within rooms; above them places would have other slopes.
        net = Net(4, [(0, 1, 1, 2), (1, 2, 1, 1), (2, 1, 1, 1), (1, 3, 1, 1)], 0, 3)
        for much, is_right in ((1, True), (Fraction(1, 2), True), (2, False)):
            goes = {0: (1, 1), 2: (1, 1), 1: pair(much), 3: pair(much)}
            self.assertIs(is_resting(net, (1, 1), ({place: (1, 1) for place in range(4)}, goes)), is_right)

    def test_is_resting_of_others(self):
        for net, rate in ((N, (4, 1)), (M, (3, 1)), (N, (5, 2))):
            slopes, goes = resting(net, rate)
            self.assertTrue(is_resting(net, rate, [reversed_dict(slopes), reversed_dict(goes)]))
            for thing in ODD + [(slopes,), (slopes, goes, {}), (goes, slopes), {0: slopes, 1: goes}, (None, goes)]:
                self.assertIs(is_resting(net, rate, thing), False)
            for other in other_dicts(slopes):
                self.assertIs(is_resting(net, rate, (other, goes)), False)
            for other in other_dicts(goes) + [{**goes, 0: (0, 1)}]:
                self.assertIs(is_resting(net, rate, (slopes, other)), False)

    def test_just_one(self):
        chance = Chance(95)
        found = [0, 0]
        while min(found) < 60:
            net = chance.net(4, 5)
            rate = chance.fraction(0, 6)
            slopes, goes = [fractions_of(part) for part in resting(net, pair(rate))]
            for _ in range(3):
                key = chance.random.choice(sorted(slopes))
                if chance.number(0, 1):
                    slopes[key] += chance.random.choice([0, 1, Fraction(-1, 3)])
                for key in chance.random.sample(range(len(net.roads())), min(2, len(net.roads()))):
                    goes[key] = goes.get(key, 0) + chance.random.choice([0, 1, -1, Fraction(1, 2)])
                goes = {number: goes[number] for number in goes if goes[number] > 0}
                is_right = is_resting_by_words(net, rate, slopes, goes)
                found[is_right] += 1
                thing = tuple([{one: pair(part[one]) for one in part} for part in (slopes, goes)])
                self.assertEqual(is_resting(net, pair(rate), thing), is_right)

    def test_example(self):
        self.assertTrue(is_resting(N, (4, 1), phases(N, comers((0, 4)), 9)[-1][2:]))
        self.assertEqual(resting(N, (4, 1))[0], {0: (1, 1), 1: (1, 1), 2: (1, 1), 3: (4, 3)})
        self.assertEqual(levels(N, (4, 1)), [((1, 1), [0, 1, 2]), ((4, 3), [3])])
        self.assertEqual(growing(N, (4, 1)), {3: (1, 3), 4: (2, 3)})
        self.assertEqual(levels(N, (3, 1)), [((1, 1), [0, 1, 2, 3])])
        self.assertEqual(growing(N, (3, 1)), {})
        self.assertEqual(levels(M, (3, 1)), [((1, 1), [0, 2]), ((3, 2), [1, 3])])
        self.assertEqual(growing(M, (3, 1)), {0: (1, 2), 4: (1, 2)})

    def test_nothing_comes(self):
        self.assertEqual(resting(N, (0, 9))[0], {place: (1, 1) for place in range(4)})
        self.assertTrue(is_resting(N, (0, 1), ({place: (1, 1) for place in range(4)}, {})))
        self.assertEqual(levels(N, (0, 9)), [((1, 1), [0, 1, 2, 3])])
        self.assertEqual(growing(N, (0, 9)), {})


class AcrossTest(unittest.TestCase):
    def test_where_courses_rest(self):
        """10.2, 10.4 and section 9: slopes and goes are a resting table, and just these lines grow."""
        chance = Chance(96)
        found = 0
        for _ in range(60):
            net, steps = chance.net(5, 9), chance.comers(3, 10)
            number = rests(net, steps, 60)
            if number is None:
                continue
            found += 1
            moment, labels, slopes, goes = phases(net, steps, 60)[number]
            rate = steps[-1][1]
            self.assertTrue(is_resting(net, rate, (slopes, goes)))
            self.assertEqual(resting(net, rate)[0], slopes)
            grow = growing(net, rate)
            for road, (one, _, _, _) in enumerate(net.roads()):
                if one in labels:
                    lines = [frac(line_at(net, steps, road, pair(frac(moment) + part), 60)) for part in (0, 1, 5)]
                    # A beat of setting out is as many beats at the road's begin as its slope.
                    growth = frac(grow.get(road, (0, 1))) * frac(slopes[one])
                    self.assertEqual(lines, [lines[0], lines[0] + growth, lines[0] + 5 * growth])
        self.assertGreater(found, 50)

    def test_other_rates_ahead_and_the_same_last_one(self):
        for steps in (comers((0, 4)), comers((0, 50), (2, 4)), comers((0, 0), (3, 9), (Fraction(7, 2), 4))):
            self.assertEqual(phases(N, steps, 60)[-1][2], resting(N, (4, 1))[0])

    def test_no_flow_above_the_room(self):
        self.assertIsNone(flow_within(N, (4, 1)))
        self.assertIsNotNone(resting(N, (4, 1)))


class ErrorsTest(unittest.TestCase):
    def test_in_order(self):
        for call in (resting, levels, growing):
            check_doors(self, call, (N, (1, 1)), [(1, BadRate, "thing", NO_MOMENTS)])
            for rate in ((0, 1), (1, 1)):
                check_error(self, NoWay, "args", (), call, NO_WAY, rate)
            check_error(self, BadRate, "thing", None, call, NO_WAY, None)
        check_doors(self, is_resting, (N, (1, 1), None), [(1, BadRate, "thing", NO_MOMENTS)])
        check_error(self, NoWay, "args", (), is_resting, NO_WAY, (0, 1), None)
        check_error(self, BadRate, "thing", None, is_resting, NO_WAY, None, None)

    def test_by_names_and_new(self):
        self.assertTrue(is_resting(thing=resting(rate=(8, 2), net=N), rate=(4, 1), net=N))
        self.assertEqual(levels(rate=(8, 2), net=N)[1], ((4, 3), [3]))
        self.assertEqual(growing(rate=(8, 2), net=N)[3], (1, 3))
        slopes, goes = resting(N, (4, 1))
        slopes.clear()
        goes.clear()
        levels(N, (4, 1))[0][1].clear()
        growing(N, (4, 1)).clear()
        self.assertEqual(levels(N, (4, 1))[0][1], [0, 1, 2])
        self.assertTrue(is_resting(N, (4, 1), resting(N, (4, 1))))


if __name__ == "__main__":
    unittest.main()
