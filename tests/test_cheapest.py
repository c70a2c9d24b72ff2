"""10.5: cheapest flows; across section 9; and what 10.6 shows of them."""

import unittest
from fractions import Fraction
from itertools import product

from quickbythen.cheapest import cheaper, cheapest, is_cheapest, least_cost, marks_for
from quickbythen.cuts import flow_within, is_flow, least_cut, room_of
from quickbythen.errors import BadRate, NoWay
from quickbythen.nets import Net
from quickbythen.phases import phases, rests
from quickbythen.refusals import BadFlow, TooMuch
from tests.helpers import (N, NO_MOMENTS, ODD, Chance, check_doors, check_error, check_told_dict, comers, frac, is_lowest,
                           other_dicts, pair, reached, reversed_dict, unlowered)
from tests.test_cuts import M, is_flow_by_words, round_net
from tests.test_tables import fractions_of
from tests.test_through import NO_WAY


def cost(net, goes):
    return sum([goes[number] * net.roads()[number][2] for number in goes], Fraction(0))


def are_marks_by_words(net, goes, marks):
    """10.5, of dicts of fractions."""
    if set(marks) != set(reached(net)) or marks[net.start()] != 0:
        return False
    for number, (one, other, length, room) in enumerate(net.roads()):
        much = goes.get(number, 0)
        if one not in marks:
            if much:
                return False
        elif marks[other] - marks[one] > length and much != room:
            return False
        elif marks[other] - marks[one] < length and much != 0:
            return False
    return True


def is_within_by_words(net, rate, goes):
    return is_flow_by_words(net, rate, goes) and all([goes[number] <= net.roads()[number][3] for number in goes])


def whole_flows(net, rate):
    """All flows of whole drops within rooms."""
    for much in product(*[range(road[3] + 1) for road in net.roads()]):
        goes = {number: Fraction(part) for number, part in enumerate(much) if part}
        if is_flow_by_words(net, rate, goes):
            yield goes


def is_passed_fraction(thing):
    return isinstance(thing, tuple) and [type(part) for part in thing] == [int, int] and thing[1] > 0


def told_of(goes):
    return {number: pair(goes[number]) for number in goes}


class CheapestTest(unittest.TestCase):
    def check_cheapest(self, net, rate):
        told = cheapest(net, pair(rate))
        self.assertIs(type(told), tuple)
        for part in told:
            check_told_dict(self, part)
        goes, marks = [fractions_of(part) for part in told]
        self.assertTrue(is_within_by_words(net, rate, goes))
        self.assertTrue(are_marks_by_words(net, goes, marks))
        self.assertIs(is_cheapest(net, pair(rate), told), True)
        passed = [{key: list(unlowered(part[key])) for key in list(part)[::-1]} for part in told]
        self.assertIs(is_cheapest(net, list(unlowered(pair(rate))), passed), True)
        self.assertEqual(cheapest(net, unlowered(pair(rate))), told)
        least = least_cost(net, pair(rate))
        self.assertTrue(is_lowest(least))
        self.assertEqual(frac(least), cost(net, goes))
        self.assertIsNone(cheaper(net, pair(rate), told[0]))
        self.check_fact(net, rate, goes, marks)
        return goes, frac(least)

    def check_fact(self, net, rate, goes, marks):
        """What a flow with marks costs."""
        worth = rate * marks[net.end()]
        for one, other, length, room in net.roads():
            if one in marks:
                worth -= room * max(0, marks[other] - marks[one] - length)
        self.assertEqual(worth, cost(net, goes))

    def check_flow(self, net, rate, goes, least):
        """Just one: marks, or a cheaper flow."""
        told = told_of(goes)
        marks, other = marks_for(net, pair(rate), told), cheaper(net, pair(rate), told)
        self.assertEqual(marks is None, other is not None)
        self.assertEqual(marks is None, cost(net, goes) > least)
        passed = {key: list(unlowered(told[key])) for key in list(told)[::-1]}
        self.assertEqual(marks_for(net, unlowered(pair(rate)), passed), marks)
        self.assertEqual(cheaper(net, unlowered(pair(rate)), passed), other)
        if marks is None:
            check_told_dict(self, other)
            self.assertTrue(is_within_by_words(net, rate, fractions_of(other)))
            self.assertLess(cost(net, fractions_of(other)), cost(net, goes))
            return 0
        check_told_dict(self, marks)
        self.assertTrue(are_marks_by_words(net, goes, fractions_of(marks)))
        self.assertIs(is_cheapest(net, pair(rate), (told, marks)), True)
        return 1

    def test_samples(self):
        chance = Chance(101)
        for _ in range(100):
            net = chance.net(6, 10)
            room = room_of(net, least_cut(net))
            for rate in (Fraction(0), Fraction(room), room * Fraction(59, 60), min(room, chance.fraction(0, 6))):
                _, least = self.check_cheapest(net, rate)
                self.check_flow(net, rate, fractions_of(flow_within(net, pair(rate))), least)

    def test_all_flows_of_small_nets(self):
        chance = Chance(102)
        found = [0, 0]
        for _ in range(40):
            net = chance.net(4, 5)
            for rate in range(room_of(net, least_cut(net)) + 1):
                _, least = self.check_cheapest(net, Fraction(rate))
                costs = []
                for goes in whole_flows(net, rate):
                    found[self.check_flow(net, Fraction(rate), goes, least)] += 1
                    costs.append(cost(net, goes))
                    if len(costs) > 40:
                        break
                else:
                    self.assertEqual(min(costs), least)
        self.assertGreater(min(found), 50)

    def test_back_again(self):
        # The second drop a beat has to send the first one another way.
        net = Net(4, [(0, 1, 1, 1), (0, 2, 5, 1), (1, 2, 1, 1), (1, 3, 5, 1), (2, 3, 1, 1)], 0, 3)
        self.assertEqual(cheapest(net, (1, 1))[0], {0: (1, 1), 2: (1, 1), 4: (1, 1)})
        self.assertEqual(cheapest(net, (2, 1))[0], {0: (1, 1), 1: (1, 1), 3: (1, 1), 4: (1, 1)})
        self.assertEqual(cheapest(net, (3, 2))[0], {0: (1, 1), 1: (1, 2), 2: (1, 2), 3: (1, 2), 4: (1, 1)})
        self.assertEqual([least_cost(net, (rate, 2)) for rate in range(5)], [(0, 1), (3, 2), (3, 1), (15, 2), (12, 1)])

    def test_long_ways_round_a_short_one(self):
        for room in (1, 3):
            net = round_net(room)
            for part in (Fraction(1, 2), 1, Fraction(3, 2), 2):
                self.check_cheapest(net, part * room)
            self.assertEqual([least_cost(net, (part * room, 2)) for part in (2, 3, 4)],
                             [pair(3 * room), pair(Fraction(11, 2) * room), pair(8 * room)])

    def test_rings_and_places_that_cannot_be_come_to(self):
        net = Net(6, [(0, 1, 1, 2), (1, 2, 1, 2), (2, 1, 1, 2), (1, 3, 1, 2), (4, 5, 1, 2), (5, 4, 1, 2)], 0, 3)
        ways = {0: Fraction(1), 2: Fraction(1)}
        for ring in ({1: 1, 3: 1}, {4: 1, 5: 1}, {4: 2, 5: 2}):
            goes = {**ways, **{number: Fraction(ring[number]) for number in ring}}
            self.assertEqual(self.check_flow(net, Fraction(1), goes, 2), 0)
            marks = marks_for(net, (1, 1), told_of(ways))
            self.assertEqual(list(marks), [0, 1, 2, 3])
            self.assertFalse(is_cheapest(net, (1, 1), (told_of(goes), marks)))
        self.assertEqual(self.check_flow(net, Fraction(1), ways, 2), 1)

    def test_marks_that_differ(self):
        # Just as much as there is room: the mark of the end may be anything from its length on.
        net = Net(2, [(0, 1, 3, 2)], 0, 1)
        for mark, is_right in ((3, True), (Fraction(7, 2), True), (100, True), (Fraction(5, 2), False), (-3, False)):
            self.assertIs(is_cheapest(net, (2, 1), ({0: (2, 1)}, {0: (0, 1), 1: pair(mark)})), is_right)
        for mark, is_right in ((3, True), (4, False), (2, False)):
            self.assertIs(is_cheapest(net, (1, 1), ({0: (1, 1)}, {0: (0, 1), 1: pair(mark)})), is_right)
        for mark, is_right in ((3, True), (4, False), (2, True), (-7, True)):
            self.assertIs(is_cheapest(net, (0, 1), ({}, {0: (0, 1), 1: pair(mark)})), is_right)
        self.assertFalse(is_cheapest(net, (1, 1), ({0: (1, 1)}, {0: (1, 1), 1: (4, 1)})))
        self.assertFalse(is_cheapest(net, (1, 1), ({0: (1, 1)}, {0: (0, 1)})))

    def test_is_cheapest_of_others(self):
        for net, rate in ((N, (3, 1)), (N, (5, 2)), (M, (1, 1))):
            goes, marks = cheapest(net, rate)
            self.assertTrue(is_cheapest(net, rate, [reversed_dict(goes), reversed_dict(marks)]))
            for thing in ODD + [(goes,), (goes, marks, {}), (marks, goes), {0: goes, 1: marks}, (None, marks),
                                (goes, None)]:
                self.assertIs(is_cheapest(net, rate, thing), False)
            for other in other_dicts(goes) + [{**goes, 0: (0, 1)}]:
                self.assertIs(is_cheapest(net, rate, (other, marks)), False)
            for other in other_dicts(marks):
                is_right = isinstance(other, dict) and all([type(key) is int for key in other])
                is_right = is_right and all([is_passed_fraction(one) for one in other.values()])
                is_right = is_right and are_marks_by_words(net, fractions_of(goes), fractions_of(other))
                self.assertIs(is_cheapest(net, rate, (goes, other)), is_right)

    def test_just_one(self):
        chance = Chance(103)
        found = [0, 0]
        while min(found) < 60:
            net = chance.net(4, 5)
            rate = Fraction(chance.number(0, room_of(net, least_cut(net))))
            goes, marks = [fractions_of(part) for part in cheapest(net, pair(rate))]
            for _ in range(3):
                key = chance.random.choice(sorted(marks))
                if chance.number(0, 1):
                    marks[key] += chance.random.choice([0, 1, Fraction(-1, 3)])
                for key in chance.random.sample(range(len(net.roads())), min(2, len(net.roads()))):
                    goes[key] = goes.get(key, 0) + chance.random.choice([0, 0, 1, -1])
                goes = {number: goes[number] for number in goes if goes[number] > 0}
                is_right = is_within_by_words(net, rate, goes) and are_marks_by_words(net, goes, marks)
                found[is_right] += 1
                self.assertEqual(is_cheapest(net, pair(rate), (told_of(goes), told_of(marks))), is_right)

    def test_example(self):
        goes, marks = cheapest(N, (3, 1))
        self.assertTrue(is_cheapest(N, (3, 1), ({0: (2, 1), 1: (1, 1), 2: (1, 1), 3: (1, 1), 4: (2, 1)},
                                                {0: (0, 1), 1: (2, 1), 2: (3, 1), 3: (6, 1)})))
        self.assertEqual(least_cost(N, (3, 1)), (12, 1))
        self.assertEqual(cost(N, fractions_of(goes)), 12)

    def test_where_courses_rest(self):
        """Across section 9: goes and labels, each less the phase's moment, are a cheapest pair."""
        chance = Chance(104)
        found = 0
        while found < 40:
            net = chance.net(5, 9)
            room = room_of(net, least_cut(net))
            rate = chance.random.choice([Fraction(room), min(room, chance.fraction(0, 6)), Fraction(0)])
            steps = comers((0, chance.fraction(0, 9)), (chance.fraction(1, 5), rate))
            number = rests(net, steps, 60)
            if number is None:
                continue
            found += 1
            moment, labels, _, goes = phases(net, steps, 60)[number]
            marks = {place: pair(frac(labels[place]) - frac(moment)) for place in labels}
            self.assertTrue(is_cheapest(net, pair(rate), (goes, marks)))
            self.assertTrue(are_marks_by_words(net, fractions_of(goes), fractions_of(marks)))
            self.assertEqual(least_cost(net, pair(rate)), pair(cost(net, fractions_of(goes))))


class ErrorsTest(unittest.TestCase):
    def calls(self):
        return ((cheapest, ()), (is_cheapest, (None,)), (least_cost, ()), (marks_for, (None,)), (cheaper, (None,)))

    def test_in_order(self):
        for call, rest in self.calls():
            for rate in NO_MOMENTS:
                check_error(self, BadRate, "thing", rate, call, N, rate, *rest)
                check_error(self, BadRate, "thing", rate, call, NO_WAY, rate, *rest)
            for rate in ((0, 1), (1, 1), (9, 1)):
                check_error(self, NoWay, "args", (), call, NO_WAY, rate, *rest)
            for rate in ((301, 100), (4, 1), (181, 60)):
                check_error(self, TooMuch, "rate", rate, call, N, rate, *rest)
        with self.assertRaises(TooMuch) as caught:
            rate = [8, 2]
            cheapest(N, rate)
        self.assertIs(caught.exception.rate, rate)

    def test_bad_flow(self):
        for call in (marks_for, cheaper):
            for thing in ODD + [{0: (4, 1), 2: (4, 1), 4: (4, 1)}, {0: (1, 1)}, {1: (2, 1), 4: (2, 1)}, {1: (True, 1), 4: (1, 1)},
                                {True: (1, 1), 4: (1, 1)}, {1: (1, 1), 4: (1, 1), 0: (0, 1)}, [(1, (1, 1)), (4, (1, 1))]]:
                check_error(self, BadFlow, "thing", thing, call, N, (1, 1), thing)
            # A flow of the rate, but not within rooms.
            for goes in ({0: (3, 1), 2: (3, 1), 4: (3, 1)}, {0: (21, 10), 2: (21, 10), 4: (21, 10), 1: (9, 10)}):
                self.assertEqual(is_flow(N, (3, 1), goes), len(goes) == 3)
                check_error(self, BadFlow, "thing", goes, call, N, (3, 1), goes)
            call(N, (0, 1), {})
        check_doors(self, marks_for, (N, (1, 1), {1: (1, 1), 4: (1, 1)}), [
            (1, BadRate, "thing", NO_MOMENTS), (2, BadFlow, "thing", [None, {}, {0: (1, 1)}])])

    def test_by_names_and_new(self):
        goes = {1: [2, 2], 4: (1, 1)}
        self.assertIsNone(marks_for(goes=goes, rate=(1, 1), net=N))
        self.assertEqual(cheaper(goes=goes, rate=(1, 1), net=N), {0: (1, 1), 2: (1, 1), 4: (1, 1)})
        self.assertEqual(goes, {1: [2, 2], 4: (1, 1)})
        self.assertEqual(least_cost(rate=(2, 2), net=N), (3, 1))
        self.assertFalse(is_cheapest(thing=None, rate=(2, 2), net=N))
        for part in cheapest(rate=(2, 2), net=N):
            part.clear()
        marks_for(N, (1, 1), {0: (1, 1), 2: (1, 1), 4: (1, 1)}).clear()
        self.assertEqual(cheapest(N, (1, 1))[0], {0: (1, 1), 2: (1, 1), 4: (1, 1)})


if __name__ == "__main__":
    unittest.main()
