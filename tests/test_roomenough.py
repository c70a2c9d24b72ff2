"""5.4 room enough, 5.9 in time, and what 5.10 shows of them."""

import unittest
from fractions import Fraction

from quickbythen.curves import first_above
from quickbythen.errors import BadComers, BadHeap, BadMoment, BadRate, BadRoad
from quickbythen.madecurves import curve_of
from quickbythen.oneroad import came_out, line_on
from quickbythen.refusals import BadCurve
from quickbythen.roomenough import crowd, latest_comers, room_for_line, room_for_wait, too_much
from tests.helpers import (NO_MOMENTS, ODD, Chance, check_error, check_told_comers, comers, curve, frac, heap,
                           is_lowest, moments_in, pair, swapped, unlowered, with_like_neighbours, with_needless, worth)
from tests.test_curves import NO_CURVES
from tests.test_oneroad import NO_LANES, line_by

C = comers((0, 5), (2, 1), (5, 0))
ROAD = (2, 3)
TINY = Fraction(1, 10 ** 9)


def has_line_above(steps, room, most):
    """Whether the line is above most at some moment, a rate being let in."""
    if frac(steps[-1][1]) > room:
        return True
    return any([line_by(steps, room, frac(step[0])) > most for step in steps])


class CrowdTest(unittest.TestCase):
    def check_crowd(self, steps, room, most):
        told = crowd(steps, pair(room), pair(most))
        self.assertEqual(told is not None, has_line_above(steps, room, most))
        if told is not None:
            self.assertIs(type(told), tuple)
            self.assertTrue(is_lowest(told[0]) and is_lowest(told[1]))
            begin, end = frac(told[0]), frac(told[1])
            self.assertTrue(0 <= begin <= end)
            self.assertGreater(heap(steps, end) - heap(steps, begin), most + room * (end - begin))
        for same in (swapped(steps), unlowered(steps), with_like_neighbours(steps)):
            self.assertEqual(crowd(same, unlowered(pair(room)), unlowered(pair(most))), told)
        return told is not None

    def test_just_one(self):
        chance = Chance(25)
        found = [0, 0]
        for _ in range(300):
            steps = chance.comers()
            found[self.check_crowd(steps, chance.fraction(0, 5), chance.fraction(0, 8))] += 1
        self.assertGreater(min(found), 50)

    def test_edges(self):
        for room, most, is_there in ((5, 0, False), (Fraction(49, 10), 0, True), (3, 4, False), (3, Fraction(39, 10), True),
                                     (0, 13, False), (0, 12, True), (0, 0, True), (1, 8, False), (1, 7, True)):
            self.assertEqual(self.check_crowd(C, room, most), is_there)
        self.assertFalse(self.check_crowd(comers((0, 0)), 0, 0))
        self.assertTrue(self.check_crowd(comers((0, Fraction(1, 6))), 0, 10 ** 4))
        self.assertTrue(self.check_crowd(comers((0, 0), (200, 2)), Fraction(199, 100), 10 ** 4))
        self.assertFalse(self.check_crowd(comers((0, 0), (200, 2)), 2, 0))
        self.check_crowd(C, 3, 3)

    def test_errors(self):
        for thing in (None, 5, "", {}, (), []):
            check_error(self, BadComers, "index", 0, crowd, thing, None, None)
        for thing in NO_MOMENTS:
            check_error(self, BadRate, "thing", thing, crowd, C, thing, None)
            check_error(self, BadHeap, "thing", thing, crowd, C, (1, 1), thing)
        self.assertIsNone(crowd(most=(4, 1), room=(3, 1), comers=C))


class LeastRoomTest(unittest.TestCase):
    def test_example(self):
        self.assertEqual(room_for_line(C, (4, 1)), (3, 1))
        self.assertEqual(room_for_wait(C, (1, 1)), (10, 3))

    def test_facts(self):
        chance = Chance(26)
        for _ in range(150):
            steps, most = chance.comers(5), chance.fraction(0, 9)
            rates = [frac(step[1]) for step in steps]
            self.assertEqual(room_for_line(steps, (0, 3)), pair(max(rates)))
            self.assertEqual(room_for_wait(steps, (0, 1)), pair(max(rates)))
            by_line, by_wait = room_for_line(steps, pair(most)), room_for_wait(steps, pair(most))
            self.assertTrue(is_lowest(by_line) and is_lowest(by_wait))
            self.assertGreaterEqual(min(frac(by_line), frac(by_wait)), rates[-1])
            for room, heap_for in ((frac(by_line), lambda room: most), (frac(by_wait), lambda room: most * room)):
                self.assertFalse(has_line_above(steps, room, heap_for(room)))
                if room > 0:
                    less = room - min(TINY, room / 2)
                    self.assertTrue(has_line_above(steps, less, heap_for(less)))
            for same in (swapped(steps), unlowered(steps), with_like_neighbours(steps)):
                self.assertEqual(room_for_line(same, unlowered(pair(most))), by_line)
                self.assertEqual(room_for_wait(same, unlowered(pair(most))), by_wait)

    def test_edges(self):
        self.assertEqual(room_for_line(comers((0, 0)), (0, 1)), (0, 1))
        self.assertEqual(room_for_wait(comers((0, 0)), (5, 1)), (0, 1))
        self.assertEqual(room_for_line(comers((0, 2), (3, 0)), (6, 1)), (0, 1))
        self.assertEqual(room_for_line(comers((0, 2), (3, 0)), (7, 1)), (0, 1))
        self.assertEqual(room_for_line(comers((0, 2), (3, 0)), (3, 1)), (1, 1))
        self.assertEqual(room_for_wait(comers((0, 2), (3, 0)), (3, 1)), (1, 1))
        self.assertEqual(room_for_wait(comers((0, 2), (3, 0)), (10 ** 4, 1)), (6, 10003))
        # From the second change to the third one, and over a calm between two crowds.
        self.assertEqual(room_for_line(comers((0, 0), (2, 9), (4, 0), (5, 9), (6, 1)), (3, 1)), (15, 2))
        self.assertEqual(room_for_line(comers((0, 0), (2, 9), (4, 8), (6, 9), (7, 1)), (3, 1)), (8, 1))

    def test_errors(self):
        for call, error in ((room_for_line, BadHeap), (room_for_wait, BadMoment)):
            for thing in (None, 5, "", {}, (), []):
                check_error(self, BadComers, "index", 0, call, thing, None)
            for thing in NO_MOMENTS:
                check_error(self, error, "thing", thing, call, C, thing)
            self.assertEqual(call(most=(1, 1), comers=C), call(C, (1, 1)))


class InTimeTest(unittest.TestCase):
    def test_example(self):
        wanted = ([((0, 1), (0, 1)), ((4, 1), (0, 1)), ((5, 1), (5, 1))], (0, 1))
        self.assertEqual(latest_comers(ROAD, wanted), [((0, 1), (0, 1)), ((4, 3), (3, 1)), ((3, 1), (0, 1))])
        self.assertIsNone(too_much(ROAD, wanted))
        soon = curve([(0, 0), (2, 0), (3, 4)], 0)
        self.assertEqual(too_much(ROAD, soon), (2, 1))
        self.assertIsNone(latest_comers(ROAD, soon))

    def check_both(self, road, wanted):
        length, room = road
        told, late = latest_comers(road, wanted), too_much(road, wanted)
        self.assertEqual(told is None, late is not None)
        roof = curve([(0, 0), (length, 0)], room)
        self.assertEqual(late, first_above(wanted, roof))
        for same in (with_needless(wanted), unlowered(wanted), swapped(wanted)):
            self.assertEqual(latest_comers(list(road), same), told)
            self.assertEqual(too_much(list(road), same), late)
        if told is None:
            return 0
        check_told_comers(self, told)
        self.assertIsNone(first_above(wanted, came_out(road, told)))
        self.assertEqual(line_on(road, told), curve([(0, 0)], 0))
        corners = [frac(corner[0]) for corner in wanted[0]]
        for moment in moments_in(curve_of(told)):
            by_now = [worth(wanted, then) for then in corners + [moment + length] if then <= moment + length]
            later = [worth(wanted, then) - room * (then - moment - length) for then in corners if then > moment + length]
            self.assertEqual(heap(told, moment), max([0] + by_now + later))
        return 1

    def test_just_one(self):
        chance = Chance(27)
        found = 0
        for _ in range(300):
            road = chance.lane(4, 6)
            wanted = chance.rising(4, first=chance.number(-20, 0))
            if chance.number(0, 2) == 0:
                wanted = chance.curve(4, -20, 12, (-5, 5))
            found += self.check_both(road, wanted)
        self.assertTrue(100 < found < 250)

    def test_edges(self):
        self.assertEqual(latest_comers(ROAD, curve([(0, 0)], 0)), comers((0, 0)))
        self.assertEqual(latest_comers(ROAD, curve([(0, -5)], -1)), comers((0, 0)))
        self.assertEqual(latest_comers(ROAD, curve([(0, 0), (2, 0)], 3)), comers((0, 3)))
        self.assertEqual(latest_comers(ROAD, curve([(0, -1)], 1)), None)
        self.assertEqual(too_much(ROAD, curve([(0, -1)], 1)), (1, 1))
        self.assertEqual(latest_comers(ROAD, curve([(0, -2)], 1)), comers((0, 1)))
        self.assertEqual(too_much(ROAD, curve([(0, 1)], 0)), (0, 1))
        self.assertEqual(too_much(ROAD, curve([(0, -100)], 4)), (94, 1))
        self.assertEqual(too_much(ROAD, curve([(0, -100)], 3)), None)
        self.assertEqual(latest_comers(ROAD, curve([(0, 0), (3, 0), (4, 2), (5, -9)], 0)),
                         comers((0, 0), (1, 2), (2, 0)))
        self.check_both(ROAD, curve([(0, 0), (2, 0), (5, 9), (6, 0)], 3))

    def test_errors(self):
        for call in (latest_comers, too_much):
            for thing in NO_LANES:
                check_error(self, BadRoad, "road", thing, call, thing, None)
            for thing in NO_CURVES + ODD:
                check_error(self, BadCurve, "thing", thing, call, ROAD, thing)
            self.assertEqual(call(wanted=curve([(0, -2)], 1), road=ROAD), call(ROAD, curve([(0, -2)], 1)))


if __name__ == "__main__":
    unittest.main()
