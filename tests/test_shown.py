"""9.5 phases shown, 9.6 plans that they tell, played out as section 6 does, and looked through as section 7 does."""

import unittest
from fractions import Fraction

from quickbythen.errors import BadComers, BadMany, NoWay
from quickbythen.gains import first_gain, gain_of
from quickbythen.nets import Net
from quickbythen.orders import road_order
from quickbythen.phases import label_at, line_at, phases, rests
from quickbythen.plans import is_plan, lines, played
from quickbythen.shown import is_phases, plan_until
from quickbythen.stories import story
from quickbythen.through import labels_through
from tests.helpers import (N, ODD, Chance, check_doors, check_error, check_told_comers, comers, frac, moments_in,
                           other_dicts, pair, reached, reversed_dict, slope_behind, swapped, unlowered,
                           with_like_neighbours, worth)
from tests.test_phases import BAD_COMERS, BAD_MANY, FOUR
from tests.test_plans import RING_NET
from tests.test_through import NO_WAY


def passed(told, factor=3):
    """The same phases, as lists, with no fraction in lowest terms, their dicts the other way about."""
    return tuple([[unlowered(part, factor) if type(part) is tuple else
                   {key: list(unlowered(part[key], factor)) for key in list(part)[::-1]} for part in phase]
                  for phase in told])


class IsPhasesTest(unittest.TestCase):
    def test_first_ones(self):
        chance = Chance(81)
        for _ in range(40):
            net = chance.net(5, 9)
            steps = chance.comers(4, 12)
            told = phases(net, steps, 6)
            for many in range(1, len(told) + 1):
                self.assertIs(is_phases(net, steps, told[:many]), True)
                self.assertIs(is_phases(net, swapped(with_like_neighbours(steps)), passed(told[:many])), True)
            for thing in ([], (), told[1:], told[::-1] if len(told) > 1 else None, told + told[-1:], told[:1] * 2):
                self.assertIs(is_phases(net, steps, thing), False)
            if rests(net, steps, 6) is not None:
                moment, labels, slopes, goes = told[-1]
                later = {place: pair(frac(labels[place]) + frac(slopes[place])) for place in labels}
                self.assertFalse(is_phases(net, steps, told + [(pair(frac(moment) + 1), later, slopes, goes)]))
            self.assertEqual(is_phases(net, comers((0, 77), (1, 78)), told), False)

    def test_any_other_part(self):
        told = phases(N, FOUR, 3)
        for at in range(3):
            def with_part(place, part):
                phase = list(told[at])
                phase[place] = part
                return told[:at] + [tuple(phase)] + told[at + 1:]
            for moment in ODD + [(told[at][0][0] + 1, 1), (-1, 1), (told[at][0][0], 0), (told[at][0][0], True)]:
                self.assertIs(is_phases(N, FOUR, with_part(0, moment)), False)
            for place in (1, 2, 3):
                self.assertTrue(is_phases(N, FOUR, with_part(place, reversed_dict(told[at][place]))))
                for other in ODD + other_dicts(told[at][place]):
                    self.assertIs(is_phases(N, FOUR, with_part(place, other)), False)
            for thing in ODD + [told[at][:3], told[at] + ({},), {k: told[at][k] for k in range(4)}]:
                self.assertIs(is_phases(N, FOUR, told[:at] + [thing] + told[at + 1:]), False)

    def test_odd(self):
        for thing in ODD + [phases(N, FOUR, 3)[0], {0: phases(N, FOUR, 1)[0]}]:
            self.assertIs(is_phases(N, FOUR, thing), False)

    def test_any_goes_that_make_a_table(self):
        # Three drops a beat and four that have room, the ways as long: shares are free.
        net = Net(2, [(0, 1, 2, 2), (0, 1, 2, 3)], 0, 1)
        labels, slopes = {0: (0, 1), 1: (2, 1)}, {0: (1, 1), 1: (1, 1)}
        for first, is_right in ((0, True), (1, True), (Fraction(5, 3), True), (2, True), (Fraction(5, 2), False)):
            goes = {number: pair(much) for number, much in ((0, first), (1, 3 - first)) if much}
            self.assertIs(is_phases(net, comers((0, 3)), [((0, 1), labels, slopes, goes)]), is_right)

    def test_errors(self):
        check_doors(self, is_phases, (N, FOUR, None), [(1, BadComers, "index", BAD_COMERS)])
        check_error(self, NoWay, "args", (), is_phases, NO_WAY, FOUR, None)
        check_error(self, BadComers, "index", 0, is_phases, NO_WAY, None, None)
        self.assertTrue(is_phases(thing=phases(N, FOUR, 2), comers=[[(0, 2), (4, 1)]], net=N))


class PlanUntilTest(unittest.TestCase):
    def check_plan(self, net, steps, many):
        told = phases(net, steps, many)
        plan, until = plan_until(net, steps, many)
        self.assertIs(type(plan), list)
        self.assertTrue(is_plan(net, plan))
        self.assertEqual(until is None, rests(net, steps, many) is not None)
        for group in plan:
            self.assertEqual((type(group), type(group[0]), len(group)), (tuple, list, 2))
            check_told_comers(self, group[1])
        self.assertEqual(plan_until(net, swapped(with_like_neighbours(unlowered(steps))), many), (plan, until))
        known = [frac(phase[0]) for phase in told] + [None if until is None else frac(until)]
        if until is not None:
            self.check_end(net, steps, many, plan, frac(until))
        self.check_goes(told, known, plan)
        return plan, (frac(told[-1][0]) + 3 if until is None else frac(until))

    def check_end(self, net, steps, many, plan, until):
        self.assertIsNotNone(label_at(net, steps, net.start(), pair(until), many))
        self.assertIsNone(label_at(net, steps, net.start(), pair(until + Fraction(1, 10 ** 6)), many))
        for _, rates in plan:
            self.assertTrue(frac(rates[-1][0]) <= until and rates[-1][1] == (0, 1))

    def check_goes(self, told, known, plan):
        """Each phase's goes are carried by the ways, each at one rate throughout."""
        for phase, begin, end in zip(told, known, known[1:]):
            carried = {}
            for way, rates in plan:
                inside = [frac(moment) for moment, _ in rates if frac(moment) > begin and (end is None or frac(moment) < end)]
                self.assertEqual(inside, [])
                rate = [frac(rate) for moment, rate in rates if frac(moment) <= begin][-1]
                for number in way:
                    carried[number] = carried.get(number, 0) + rate
            self.assertEqual({number: pair(carried[number]) for number in carried if carried[number]}, phase[3])

    def check_played(self, net, steps, many):
        """What 9.6 tells of it: each drop is at each place at its label, lines are those of 9.4, nobody gains."""
        plan, last = self.check_plan(net, steps, many)
        horizon = frac(label_at(net, steps, net.end(), pair(last), many)) + 1
        self.assertIsNone(first_gain(net, plan, pair(horizon)))
        waiting = lines(net, plan, pair(horizon))
        for moment in [last * part / 7 for part in range(8)]:
            args = (net, plan, pair(moment), pair(horizon))
            labels = {place: label_at(net, steps, place, pair(moment), many) for place in reached(net)}
            found = labels_through(*args)
            self.assertEqual(found, {place: labels[place] for place in labels if frac(labels[place]) <= horizon})
            self.assertIn(net.end(), found)
            for number, (one, _, _, _) in enumerate(net.roads()):
                if one in found and frac(found[one]) <= frac(found[net.end()]):
                    self.assertEqual(pair(worth(waiting[number], frac(found[one]))),
                                     line_at(net, steps, number, pair(moment), many))
            for index, (way, rates) in enumerate(plan):
                if [frac(rate) for begin, rate in rates if frac(begin) <= moment][-1] > 0:
                    self.assertEqual(gain_of(net, plan, index, pair(moment), pair(horizon)), (0, 1))
                    places = [net.start()] + [net.roads()[number][1] for number in way]
                    self.assertEqual(story(net, plan, way, pair(moment), pair(horizon)), [labels[one] for one in places])
        return plan

    def test_samples(self):
        chance = Chance(82)
        for _ in range(35):
            net = chance.net(5, 9)
            self.check_played(net, chance.comers(4, 12), chance.random.choice([1, 2, 4, 60]))

    def test_as_many_are_there_as_set_out(self):
        chance = Chance(83)
        for _ in range(10):
            net, steps = chance.net(5, 9), chance.comers(3, 12)
            plan, last = self.check_plan(net, steps, 5)
            end = label_at(net, steps, net.end(), pair(last), 5)
            groups = played(net, plan, end)
            set_out = sum([worth(group[0], last) for group in groups])
            self.assertEqual(set_out, sum([worth(group[-1], frac(end)) for group in groups]))

    def test_lines_by_labels(self):
        """7.5, of the plans of 9.6: lines are read from labels alone."""
        chance = Chance(84)
        for _ in range(10):
            net, steps = chance.net(4, 7), chance.comers(3, 9)
            plan, last = self.check_plan(net, steps, 4)
            horizon = label_at(net, steps, net.end(), pair(last), 4)
            waiting = lines(net, plan, horizon)
            for moment in (Fraction(0), last / 3, last / 2):
                labels = labels_through(net, plan, pair(moment), horizon)
                for number, (one, other, length, room) in enumerate(net.roads()):
                    if one in labels and other in labels:
                        more = frac(labels[other]) - frac(labels[one]) - length
                        self.assertEqual(worth(waiting[number], frac(labels[one])), room * max(0, more))

    def test_example(self):
        plan = self.check_played(N, FOUR, 10)
        self.assertIsNone(plan_until(N, FOUR, 10)[1])
        self.assertEqual([way for way, _ in plan], [[0, 2, 4], [0, 3], [1, 4]])
        self.assertIsNotNone(road_order(N, plan))
        self.assertEqual(plan_until(N, FOUR, 1), ([([0, 2, 4], comers((0, 4), (1, 0)))], (1, 1)))
        self.assertEqual(plan_until(N, FOUR, 2)[1], (3, 1))
        self.check_played(N, FOUR, 1)
        self.check_played(N, FOUR, 2)

    def test_plans_without_an_order(self):
        # Waits come and go, so that at some time or other ways lead each way round the roads 3, 5 and 7.
        lengths = [((1, 2), (10, 8), (1, 4), (1, 7), (12, 7), (1, 5), (3, 4), (1, 2), (6, 6)),
                   ((11, 8), (1, 6), (1, 1), (2, 4), (8, 7), (2, 4), (1, 4), (3, 7), (12, 8))]
        steps = [comers((0, 28), (Fraction(22, 3), 7), (Fraction(31, 3), Fraction(146, 3)), (Fraction(52, 3), 0),
                        (Fraction(59, 3), Fraction(26, 3)), (Fraction(142, 3), Fraction(47, 3))),
                 comers((0, 0), (10, Fraction(7, 2)), (Fraction(34, 3), 0), (Fraction(107, 6), Fraction(116, 3)),
                        (Fraction(149, 6), 40), (Fraction(136, 3), 11))]
        for lanes, rows in zip(lengths, steps):
            net = Net(5, [road[:2] + lane for road, lane in zip(RING_NET.roads(), lanes)], 0, 4)
            plan = self.check_played(net, rows, 60)
            self.assertIsNone(road_order(net, plan))

    def test_nobody_comes(self):
        plan, until = plan_until(N, comers((0, 0)), 3)
        self.assertIsNone(until)
        self.assertTrue(all([rate == (0, 1) for _, rates in plan for _, rate in rates]))
        self.check_played(N, comers((0, 0), (2, 5), (3, 0)), 9)

    def test_whoever_sets_out_later_does_not_come(self):
        plan, until = plan_until(N, FOUR, 2)
        for index, (_, rates) in enumerate(plan):
            for one in played(N, plan, (40, 1))[index]:
                self.assertEqual(slope_behind(one, 30), 0)
            self.assertEqual(rates[-1][1], (0, 1))
        self.assertEqual(sum([worth(group[0], frac(until)) for group in played(N, plan, (40, 1))]), 12)
        self.assertEqual(moments_in(played(N, plan, (40, 1))[0][0])[0], 0)

    def test_errors(self):
        check_doors(self, plan_until, (N, FOUR, 2), [(1, BadComers, "index", BAD_COMERS), (2, BadMany, "many", BAD_MANY)])
        check_error(self, NoWay, "args", (), plan_until, NO_WAY, FOUR, 1)
        check_error(self, BadMany, "many", 0, plan_until, NO_WAY, FOUR, 0)
        self.assertEqual(plan_until(many=1, comers=FOUR, net=N)[1], (1, 1))
        plan_until(N, FOUR, 1)[0].clear()
        self.assertEqual(len(plan_until(N, FOUR, 1)[0]), 1)


if __name__ == "__main__":
    unittest.main()
