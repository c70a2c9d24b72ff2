"""13.3 to 13.5: what one stream tells of a bundle; and what 13.7 shows of it."""

import unittest
from fractions import Fraction

from quickbythen.bundles import lanes_of, room_by
from quickbythen.bundlethrough import time_through
from quickbythen.curves import first_apart, plain
from quickbythen.errors import BadComers
from quickbythen.refusals import BadBundle, BadCurve
from quickbythen.seen import fits_until, seen_bounds, tells_all, twin_for
from tests.helpers import (NO_FRACTIONS, ODD, Chance, check_doors, check_error, comers, curve, frac, is_lowest, pair,
                           swapped, unlowered, with_like_neighbours, with_needless, worth)
from tests.test_bundles import BAD_BUNDLES, BAD_ROWS, B, any_bundle
from tests.test_bundlethrough import C
from tests.test_phases import BAD_COMERS

NO_CURVES = [thing for thing in ODD] + [([], (0, 1)), ([((0, 1), (1, 1))],), ([((1, 1), (1, 1))], (0, 1)),
                                         ([((0, 1), (1, 1)), ((0, 1), (2, 1))], (0, 1))] + [
    ([((0, 1), (1, 1))], thing) for thing in NO_FRACTIONS]
BAD_CURVES = NO_CURVES + [curve([(0, 0)], 0), curve([(0, -1)], 1), curve([(0, Fraction(3, 2)), (1, 2)], 0),
                          ([((0, 1), (3, 2))], (0, 1)), ([((0, 7), (0, 2))], (1, 1))]


def bundle_by(rooms):
    """The bundle of rooms, integers that do not fall, by ascending numbers; what is 0 first is left out."""
    found = []
    reached = 0
    for number, room in rooms:
        if room > reached:
            found.append([(number, room - reached)])
            reached = room
    return found


def has_until(bundle, steps, seen):
    """The moment up to which a bundle has a curve, None if it has all of it."""
    return first_apart(time_through(bundle, steps), seen)


def all_rooms(first, many, most):
    """All lists of rooms by numbers from first on, integers up to most that do not fall."""
    found = [[room] for room in range(1, most + 1)]
    for _ in range(many - 1):
        found = [rooms + [room] for rooms in found for room in range(rooms[-1], most + 1)]
    return [list(enumerate(rooms, first)) for rooms in found]


class BoundsTest(unittest.TestCase):
    def last_bend(self, steps, seen):
        told = [frac(moment) for moment, _ in plain(seen)[0]]
        turns = [frac(moment) for (moment, rate), (_, ahead) in zip(steps[1:], steps) if rate != ahead]
        return max(told[1:] + turns + [Fraction(0)])

    def check_bounds(self, steps, seen):
        """By the words of 13.4; bundles just at, in and just outside of the bounds are tried."""
        told = seen_bounds(steps, seen)
        self.assertEqual(seen_bounds(swapped(with_like_neighbours(unlowered(steps))), swapped(with_needless(seen))), told)
        self.assertTrue(type(told) is tuple and type(told[0]) is list and type(told[1]) is bool)
        bounds, is_all = told
        grows = frac(seen[1]) > 0
        self.assertIs(is_all, grows)
        greatest = worth(seen, self.last_bend(steps, seen)) if grows else max([frac(one) for _, one in seen[0]])
        first = seen[0][0][1][0]
        self.assertEqual([number for number, _, _ in bounds], list(range(first, int(greatest) + 1)))
        for bound in bounds:
            self.assertTrue(type(bound) is tuple and type(bound[1]) is int and bound[1] >= 1)
            self.assertTrue(bound[2] is None or (type(bound[2]) is int and bound[1] <= bound[2]))
        for one, other in zip(bounds, bounds[1:]):
            self.assertLessEqual(one[1], other[1])
            self.assertTrue(other[2] is None or one[2] <= other[2])
        self.check_bundles(steps, seen, bounds, is_all)
        return bounds, is_all

    def check_bundles(self, steps, seen, bounds, is_all):
        least = [(number, one) for number, one, _ in bounds]
        most = [(number, many if many is not None else max(one, least[-1][1]) + 3) for number, one, many in bounds]
        for rooms in (least, most):
            self.assertIsNone(has_until(bundle_by(rooms), steps, seen))
        after = bounds[-1][0] + 1
        self.assertIs(has_until(bundle_by(most + [(after, most[-1][1] + 1)]), steps, seen) is None, not is_all)
        for index, (number, one, many) in enumerate(bounds):
            less = [(other, min(room, one - 1) if other <= number else room) for other, room in least]
            if one > 1 or index == 0 and len(bounds) > 1:
                self.assertIsNotNone(has_until(bundle_by(less), steps, seen))
            if many is not None:
                more = [(other, max(room, many + 1) if other >= number else room) for other, room in most]
                self.assertIsNotNone(has_until(bundle_by(more), steps, seen))
        if least[0][0] > 1:
            self.assertIsNotNone(has_until([[(1, 1)]] + bundle_by(least), steps, seen))

    def test_of_bundles(self):
        chance = Chance(221)
        found = [0, 0]
        for _ in range(150):
            bundle, steps = any_bundle(chance), chance.comers(4, 15)
            seen = time_through(bundle, steps)
            self.assertIsNone(fits_until(steps, seen))
            bounds, is_all = self.check_bounds(steps, seen)
            for number, least, most in bounds:
                self.assertTrue(least <= room_by(bundle, number) and (most is None or room_by(bundle, number) <= most))
            found[is_all] += 1
        self.assertGreater(min(found), 25)

    def test_all_small_bundles(self):
        """Curves of all kinds, held against all bundles that are small."""
        chance = Chance(222)
        rooms = all_rooms(1, 4, 4)
        found = [0, 0]
        for _ in range(60):
            steps = comers((0, chance.number(0, 6)), (chance.number(1, 2), chance.number(0, 6)))
            seen = time_through(bundle_by(chance.random.choice(rooms)), steps)
            corners = [(frac(moment), frac(one)) for moment, one in seen[0]]
            if chance.number(0, 1):
                corners[-1] = (corners[-1][0], corners[-1][1] + chance.random.choice([0, Fraction(1, 2)]))
            seen = curve(corners, chance.random.choice([frac(seen[1]), Fraction(0), Fraction(1, 2), Fraction(-1)]))
            if seen[0][0][1][1] != 1:
                continue
            until = fits_until(steps, seen)
            fitting = [one for one in rooms if has_until(bundle_by(one), steps, seen) is None]
            reached = [has_until(bundle_by(one), steps, seen) for one in rooms if one[0][0] == seen[0][0][1][0]]
            if until is None:
                self.check_small(steps, seen, rooms, fitting)
            else:
                self.assertEqual(fitting, [])
                self.assertIsNone(seen_bounds(steps, seen))
                self.assertTrue(is_lowest(until))
                self.assertLessEqual(max([frac(one) for one in reached if one] + [Fraction(0)]), frac(until))
            found[until is None] += 1
        self.assertGreater(min(found), 10)

    def check_small(self, steps, seen, rooms, fitting):
        bounds, is_all = self.check_bounds(steps, seen)
        for one in rooms:
            by = dict(one)
            is_fit = all([least <= by.get(number, by[4]) and (most is None or by.get(number, by[4]) <= most)
                          for number, least, most in bounds])
            if is_all:
                is_fit = is_fit and by[4] == by.get(bounds[-1][0], by[4])
            self.assertIs(is_fit, one in fitting)

    def test_example(self):
        self.assertEqual(seen_bounds(C, time_through(B, C)), ([(1, 2, 2), (2, 2, 2), (3, 4, 4)], False))
        three, five = comers((0, 3)), comers((0, 5))
        self.assertEqual(seen_bounds(three, time_through(B, three)), ([(1, 2, 2), (2, 2, 2), (3, 3, None)], False))
        self.assertEqual(seen_bounds(five, time_through(B, five)), ([(1, 2, 2), (2, 2, 2), (3, 4, 4)], True))
        half = ([((0, 1), (1, 1))], (1, 2))
        self.assertIsNone(fits_until(three, half))
        self.assertEqual(seen_bounds(three, half), ([(1, 2, 2)], True))
        self.assertEqual(fits_until(comers((0, 2)), half), (0, 1))
        self.assertIsNone(seen_bounds(comers((0, 2)), half))


class UntilTest(unittest.TestCase):
    def check_until(self, steps, seen, moment):
        self.assertEqual(fits_until(steps, seen), moment)
        self.assertEqual(fits_until(swapped(unlowered(steps)), with_needless(seen)), moment)
        self.assertIs(seen_bounds(steps, seen) is None, moment is not None)

    def test_by_hand(self):
        six = comers((0, 6), (2, 0))
        # Up to the corner at 1 a room of two; then one of four is told, by 3: and it stays up to 2.
        self.check_until(six, curve([(0, 1), (1, 3), (2, Fraction(7, 2))], -1), (9, 2))
        self.check_until(six, curve([(0, 1), (1, 3), (2, Fraction(7, 2)), (Fraction(9, 2), 1)], 0), None)
        self.check_until(six, curve([(0, 1), (1, 3), (2, Fraction(7, 2)), (Fraction(9, 2), 1)], 1), (9, 2))
        self.check_until(six, curve([(0, 1), (1, 3), (2, Fraction(7, 2))], Fraction(-1, 2)), (2, 1))
        self.check_until(six, curve([(0, 1), (1, 3), (2, Fraction(18, 5))], -1), (1, 1))
        # The room by 1 and 2 is two on the way up, so it can not be three on the way down; and there is none below 1.
        self.check_until(comers((0, 6), (1, 2)), curve([(0, 1), (1, 3)], Fraction(-1, 3)), (1, 1))
        self.check_until(comers((0, 6), (1, 1)), curve([(0, 1), (1, 3)], Fraction(-1, 2)), (5, 1))
        self.check_until(comers((0, 6), (1, 2)), curve([(0, 1), (1, 3)], 0), None)
        # Nobody comes: a line only shrinks, by a beat each beat, to the shortest length.
        self.check_until(comers((0, 0)), curve([(0, 4)], 0), None)
        self.check_until(comers((0, 0)), curve([(0, 4)], -1), (0, 1))
        self.check_until(comers((0, 0)), curve([(0, 4)], Fraction(1, 9)), (0, 1))
        self.check_until(comers((0, 6), (1, 0)), curve([(0, 1), (1, 3), (2, 2)], 0), (2, 1))

    def test_bounds_that_meet(self):
        # While it rests by 3 no more than the rate is let in by 2, and no less by 3.
        up = [(0, 2), (Fraction(1, 3), 3)]
        for steps, bounds in ((comers((0, 8)), [(2, 2, 2), (3, 8, None)]), (comers((0, 8), (1, 3)), [(2, 2, 2), (3, 8, None)]),
                              (comers((0, 8), (1, 9)), [(2, 2, 2), (3, 9, None)]),
                              (comers((0, 8), (1, Fraction(17, 2))), [(2, 2, 2), (3, 9, None)])):
            self.check_until(steps, curve(up, 0), None)
            self.assertEqual(seen_bounds(steps, curve(up, 0)), (bounds, False))
        self.check_until(comers((0, 8), (1, Fraction(3, 2))), curve(up, 0), (1, 1))
        # That eight are let in by 3 does not go with what tells four of all numbers from 3 on.
        self.check_until(comers((0, 8), (1, 12)), curve(up + [(1, 3)], 2), (1, 1))
        self.check_until(comers((0, 8), (1, 12)), curve(up + [(1, 3)], Fraction(1, 2)), None)
        self.assertEqual(seen_bounds(comers((0, 8), (1, 12)), curve(up + [(1, 3)], Fraction(1, 2))),
                         ([(2, 2, 2), (3, 8, 8)], True))

    def test_rates_that_are_no_integers(self):
        self.check_until(comers((0, Fraction(5, 2))), curve([(0, 7)], 0), None)
        self.assertEqual(seen_bounds(comers((0, Fraction(5, 2))), curve([(0, 7)], 0)), ([(7, 3, None)], False))
        self.check_until(comers((0, Fraction(5, 2))), curve([(0, 7)], Fraction(1, 4)), None)
        self.check_until(comers((0, 3), (2, Fraction(5, 2))), curve([(0, 7), (2, Fraction(15, 2))], 0), (0, 1))
        self.check_until(comers((0, 5), (3, 4)), curve([(0, 7), (3, Fraction(15, 2) + Fraction(1, 4))], 0), None)
        self.check_until(comers((0, 5), (3, Fraction(9, 2))), curve([(0, 7), (3, Fraction(31, 4))], 0), (3, 1))

    def test_grows_for_ever_after_greater_worths(self):
        # Eight a beat by a room of two and, by 3, of four; what then grows for ever must have four by 3.
        steps = comers((0, 8), (2, 0), (Fraction(21, 4), 3))
        seen = curve([(0, 2), (Fraction(1, 3), 3), (2, Fraction(14, 3)), (Fraction(14, 3), 2), (Fraction(21, 4), 2)], Fraction(1, 2))
        self.check_until(steps, seen, (29, 4))
        bounded = curve([(0, 2), (Fraction(1, 3), 3), (2, Fraction(14, 3)), (Fraction(14, 3), 2), (Fraction(21, 4), 2),
                         (Fraction(29, 4), 3)], 0)
        self.check_until(steps, bounded, None)

    def test_within_limits(self):
        chance = Chance(223)
        for _ in range(5):
            bundle = [[(chance.number(1, 40), chance.number(1, 20))] for _ in range(6)]
            steps = comers(*[(Fraction(k * k * 9, 6), Fraction(chance.number(0, 15000), 60)) for k in range(12)])
            seen = time_through(bundle, steps)
            self.check_until(steps, seen, None)
        up = curve([(at, 1 if at % 2 == 0 else 399) for at in range(20)], 0)
        steps = comers(*[(at, 399 * 12 if at % 2 == 0 else 0) for at in range(12)])
        self.assertEqual(fits_until(steps, up), (1, 1))


class TellsTest(unittest.TestCase):
    def check_tells(self, bundle, steps):
        whole = sum([room for _, room in lanes_of(bundle)])
        is_all = frac(steps[-1][1]) > whole
        same = (swapped(bundle), swapped(with_like_neighbours(unlowered(steps))))
        self.assertIs(tells_all(bundle, steps), is_all)
        self.assertIs(tells_all(*same), is_all)
        told = twin_for(bundle, steps)
        self.assertEqual(twin_for(*same), told)
        self.assertEqual(twin_for(bundle[::-1], steps), told)
        seen = time_through(bundle, steps)
        if is_all:
            self.assertIsNone(told)
            bounds, is_known = seen_bounds(steps, seen)
            self.assertTrue(is_known and all([least == most for _, least, most in bounds]))
        else:
            self.assertTrue(type(told) is list and all([type(lane) is tuple for lane in told]))
            self.assertEqual(lanes_of([[lane] for lane in told]), told)
            self.assertNotEqual(told, lanes_of(bundle))
            self.assertEqual(time_through([[lane] for lane in told], steps), seen)
        return is_all

    def test_samples(self):
        chance = Chance(224)
        found = [0, 0]
        for _ in range(100):
            found[self.check_tells(any_bundle(chance), chance.comers(4, 15))] += 1
        self.assertGreater(min(found), 20)

    def test_last_rates_at_above_and_below_all_rooms(self):
        for more, is_all in ((-1, False), (0, False), (Fraction(1, 60), True), (1, True)):
            for steps in (comers((0, 4 + more)), comers((0, 9), (1, 0), (2, 4 + more))):
                self.assertIs(self.check_tells(B, steps), is_all)
        # A longer lane that stands already takes more room, or another one comes ahead of it.
        self.assertIs(self.check_tells(B + [[(4, 1)]], C), False)
        self.assertIs(self.check_tells(B + [[(30, 7)]], C), False)
        self.assertIs(self.check_tells([[(1, 9)], [(2, 9)]], comers((0, 1))), False)


class ErrorsTest(unittest.TestCase):
    def test_in_order(self):
        seen = time_through(B, C)
        for call in (fits_until, seen_bounds):
            check_doors(self, call, (C, seen), [(0, BadComers, "index", BAD_COMERS), (1, BadCurve, "thing", BAD_CURVES)])
            check_error(self, BadComers, "index", 2, call, C + C, None)
            call(C, ([((0, 3), (4, 2))], (0, 1)))
        for call in (tells_all, twin_for):
            check_doors(self, call, (B, C), [(0, BadBundle, "index", BAD_BUNDLES), (1, BadComers, "index", BAD_COMERS)])
            for row in BAD_ROWS:
                check_error(self, BadBundle, "index", 2, call, B + [row], None)

    def test_by_names_and_new(self):
        seen = time_through(B, C)
        self.assertIsNone(fits_until(curve=seen, comers=C))
        self.assertEqual(seen_bounds(curve=seen, comers=C), seen_bounds(C, seen))
        self.assertIs(tells_all(comers=C, bundle=B), False)
        self.assertEqual(twin_for(comers=C, bundle=B), twin_for(B, C))
        seen_bounds(C, seen)[0].clear()
        twin_for(B, C).clear()
        self.assertEqual(seen, time_through(B, C))
        self.assertEqual(len(twin_for(B, C)), 3)


if __name__ == "__main__":
    unittest.main()
