"""5.1 to 5.3: one road, played out, and what 5.10 shows of it."""

import unittest
from fractions import Fraction

from quickbythen.curves import area
from quickbythen.errors import BadComers, BadRoad
from quickbythen.heldcurves import held_back
from quickbythen.madecurves import behind, curve_of, difference
from quickbythen.oneroad import busy, came_out, line_on, went_in, when_out
from tests.helpers import (NO_INTEGERS, ODD, ZERO_CURVE, Chance, check_error, check_told_curve, comers, curve, frac,
                           heap, is_lowest, moments_in, pair, swapped, unlowered, with_like_neighbours, worth)

C = comers((0, 5), (2, 1), (5, 0))
ROAD = (2, 3)
CALLS = (went_in, line_on, came_out, when_out, busy)
NO_LANES = ODD + [(0, 1), (1, 0), (-1, 1), (1, -1), (True, 1), (1, True), (1,), (1, 2, 3), (1, (1, 1)), ((1, 1), 1),
                  ("1", 1), {0: 1, 1: 1}, "12"]


def line_by(steps, room, moment):
    """The line at a moment: the most that came, over all moments up to it, less room for each beat."""
    begins = [frac(step[0]) for step in steps if frac(step[0]) <= moment] + [moment]
    return max([heap(steps, moment) - heap(steps, begin) - room * (moment - begin) for begin in begins])


class PlayedOutTest(unittest.TestCase):
    def test_example(self):
        self.assertEqual(line_on(ROAD, C), ([((0, 1), (0, 1)), ((2, 1), (4, 1)), ((4, 1), (0, 1))], (0, 1)))
        self.assertEqual(came_out(ROAD, C), ([((0, 1), (0, 1)), ((2, 1), (0, 1)), ((6, 1), (12, 1)),
                                              ((7, 1), (13, 1))], (0, 1)))
        self.assertEqual(when_out(ROAD, C), ([((0, 1), (2, 1)), ((2, 1), (16, 3)), ((4, 1), (6, 1))], (1, 1)))
        self.assertEqual(went_in(ROAD, C), curve([(0, 0), (4, 12), (5, 13)], 0))
        self.assertEqual(busy(ROAD, C), [((0, 1), (4, 1))])
        self.assertEqual(area(line_on(ROAD, C), (0, 1), (4, 1)), (8, 1))

    def test_all(self):
        chance = Chance(23)
        for _ in range(120):
            road, steps = chance.lane(), chance.comers()
            length, room = road
            came = curve_of(steps)
            told = [call(road, steps) for call in CALLS[:4]]
            for one in told:
                check_told_curve(self, one)
            inside, line, out, when = told
            self.assertEqual(inside, held_back(came, (room, 1)))
            self.assertEqual(line, difference(came, inside))
            for moment in moments_in(*told):
                waiting = line_by(steps, room, moment)
                self.assertEqual(worth(line, moment), waiting)
                self.assertEqual(worth(inside, moment), heap(steps, moment) - waiting)
                self.assertEqual(worth(when, moment), moment + waiting / room + length)
                self.assertEqual(worth(out, moment + length), worth(inside, moment))
                if moment <= length:
                    self.assertEqual(worth(out, moment), 0)
            self.assertEqual(behind(out, when), came)
            for same in (swapped(steps), unlowered(steps), with_like_neighbours(steps)):
                self.assertEqual([call(list(road), same) for call in CALLS[:4]], told)

    def test_by_names(self):
        for call in CALLS:
            self.assertEqual(call(comers=C, road=ROAD), call(ROAD, C))

    def test_just_as_much_as_there_is_room(self):
        self.assertEqual(line_on(ROAD, comers((0, 3))), ZERO_CURVE)
        self.assertEqual(when_out(ROAD, comers((0, 3))), curve([(0, 2)], 1))
        self.assertEqual(came_out(ROAD, comers((0, 3))), curve([(0, 0), (2, 0)], 3))
        # A line that is there stays as long as just so many come.
        steps = comers((0, 4), (1, 3))
        self.assertEqual(line_on(ROAD, steps), curve([(0, 0), (1, 1)], 0))
        self.assertEqual(when_out(ROAD, steps), curve([(0, 2), (1, Fraction(10, 3))], 1))

    def test_nobody(self):
        for steps in (comers((0, 0)), comers((0, 0), (4, 0))):
            self.assertEqual(went_in(ROAD, steps), ZERO_CURVE)
            self.assertEqual(line_on(ROAD, steps), ZERO_CURVE)
            self.assertEqual(came_out(ROAD, steps), ZERO_CURVE)
            self.assertEqual(when_out(ROAD, steps), curve([(0, 2)], 1))
            self.assertEqual(busy(ROAD, steps), [])


class BusyTest(unittest.TestCase):
    def test_by_hand(self):
        for steps, told in ((comers((0, 3)), []), (comers((0, 4)), [(0, None)]), (comers((0, 1), (2, 4)), [(2, None)]),
                            (comers((0, 4), (1, 3)), [(0, None)]), (comers((0, 4), (1, 2)), [(0, 2)]),
                            (comers((0, 4), (1, 2), (2, 4), (3, 2)), [(0, 2), (2, 4)]),
                            (comers((0, 4), (1, 2), (2, 3), (3, 5)), [(0, 2), (3, None)]),
                            (comers((0, 4), (1, 2), (2, 1), (3, 0), (4, 9), (5, 0)), [(0, 2), (4, 7)]),
                            (comers((0, 0), (Fraction(1, 2), 6), (1, 3), (2, 0)), [(Fraction(1, 2), Fraction(5, 2))])):
            found = [(pair(begin), None if end is None else pair(end)) for begin, end in told]
            self.assertEqual(busy(ROAD, steps), found)

    def test_all(self):
        chance = Chance(24)
        for _ in range(150):
            road, steps = chance.lane(3, 4), chance.comers(5)
            told = busy(road, steps)
            self.assertIs(type(told), list)
            ends = []
            for stretch in told:
                self.assertIs(type(stretch), tuple)
                self.assertTrue(is_lowest(stretch[0]))
                ends.append((frac(stretch[0]), None if stretch[1] is None else frac(stretch[1])))
            for (_, end), (begin, _) in zip(ends, ends[1:]):
                self.assertLessEqual(end, begin)
            for moment in moments_in(line_on(road, steps), came_out(road, steps)):
                within = [begin for begin, end in ends if begin < moment and (end is None or moment < end)]
                self.assertEqual(len(within), 1 if line_by(steps, road[1], moment) > 0 else 0)
            for begin, end in ends:
                self.assertEqual(line_by(steps, road[1], begin), 0)
                if end is not None:
                    self.assertEqual(line_by(steps, road[1], end), 0)


class ErrorsTest(unittest.TestCase):
    def test_bad_road(self):
        for call in CALLS:
            for thing in NO_LANES:
                check_error(self, BadRoad, "road", thing, call, thing, None)

    def test_bad_comers(self):
        for call in CALLS:
            check_error(self, BadComers, "index", 0, call, ROAD, [])
            check_error(self, BadComers, "index", 0, call, ROAD, "")
            for thing in NO_INTEGERS:
                check_error(self, BadComers, "index", 1, call, ROAD, [((0, 1), (1, 1)), thing])

    def test_what_is_passed_stays(self):
        steps = [[[0, 2], [2, 2]], [[2, 2], [4, 4]]]
        road = [2, 3]
        for call in CALLS:
            call(road, steps)
        self.assertEqual((road, steps), ([2, 3], [[[0, 2], [2, 2]], [[2, 2], [4, 4]]]))


if __name__ == "__main__":
    unittest.main()
