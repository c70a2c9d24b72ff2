"""4.1 curves, 4.2 first moments, 4.3 areas, and what 4.8 shows of them."""

import unittest
from fractions import Fraction

from quickbythen.curves import area, first_above, first_apart, first_at, is_curve, plain, slope_at, worth_at
from quickbythen.errors import BadFraction, BadMoment
from quickbythen.refusals import BadCurve
from tests.helpers import (NO_FRACTIONS, NO_MOMENTS, ODD, Chance, check_error, check_told_curve, curve, frac, moments_in,
                           pair, slope_behind, swapped, unlowered, with_needless, worth)

c = ([((0, 1), (0, 1)), ((1, 1), (3, 1)), ((3, 1), (3, 1))], (1, 2))
h = ([((0, 1), (1, 1))], (1, 1))
NO_CURVES = ODD + [
    ([], (1, 1)), ((), (1, 1)), (c[0],), (c[0], (1, 2), (1, 2)), (c[0], 1), (c[0], None), {0: c[0], 1: c[1]},
    ([((1, 1), (1, 1))], (0, 1)), ([((-1, 1), (1, 1))], (0, 1)), ("", (0, 1)), ({}, (0, 1)), (None, (0, 1)),
    ([((0, 1), (1, 1)), ((0, 1), (2, 1))], (0, 1)), ([((0, 1), (1, 1)), ((2, 1), (2, 1)), ((4, 2), (2, 1))], (0, 1)),
    ([((0, 1), (1, 1)), ((2, 1), (2, 1)), ((1, 1), (2, 1))], (0, 1)), ([(0, 1)], (0, 1)),
    ([((0, 1), (1, 1), (1, 1))], (0, 1)), ([((False, 1), (1, 1))], (0, 1)), ([((0, 1), (True, 1))], (0, 1)),
    ([((0, True), (1, 1))], (0, 1)), ([((0, 1), (1, 1))], (False, 1)), ([{0: (0, 1), 1: (1, 1)}], (0, 1)),
    ([((0, 1), (1, 1)), None], (0, 1)), ([((0, 1), (1, 1)), ((1, 0), (1, 1))], (0, 1))]


class CurvesTest(unittest.TestCase):
    def test_is_curve(self):
        chance = Chance(4)
        for _ in range(100):
            one = chance.curve()
            for same in (one, swapped(one), unlowered(one), with_needless(one)):
                self.assertIs(is_curve(same), True)
        for thing in NO_CURVES:
            self.assertIs(is_curve(thing), False)
        for part in NO_FRACTIONS:
            self.assertIs(is_curve((c[0], part)), False)
            self.assertIs(is_curve(([((0, 1), part)], (0, 1))), False)
        for part in NO_MOMENTS:
            self.assertIs(is_curve(([((0, 1), (1, 1)), (part, (0, 1))], (0, 1))), False)
        self.assertTrue(is_curve(([((0, 7), (-10 ** 6, 10 ** 5)), ((1, 10 ** 9), (5, 1))], (-4, 6))))

    def test_plain(self):
        chance = Chance(5)
        for _ in range(100):
            one = chance.curve()
            told = plain(one)
            check_told_curve(self, told)
            for moment in moments_in(one):
                self.assertEqual(worth(told, moment), worth(one, moment))
            for same in (told, swapped(one), unlowered(one), with_needless(one), unlowered(swapped(with_needless(one)))):
                self.assertEqual(plain(same), told)
                check_told_curve(self, plain(same))

    def test_needless_corners(self):
        self.assertEqual(plain(curve([(0, 0), (1, 1), (2, 2), (5, 5)], 1)), curve([(0, 0)], 1))
        self.assertEqual(plain(curve([(0, 0), (1, 1), (2, 2), (5, 5)], 2)), curve([(0, 0), (5, 5)], 2))
        self.assertEqual(plain(curve([(0, 3), (1, 3), (2, 4), (3, 5)], 1)), curve([(0, 3), (1, 3)], 1))
        self.assertEqual(plain(curve([(0, 3), (1, 1), (2, -1), (4, -5), (5, 0)], -2)),
                         curve([(0, 3), (4, -5), (5, 0)], -2))
        self.assertEqual(plain(([((0, 6), (2, 4)), ((2, 2), (3, 3))], (4, 6))),
                         ([((0, 1), (1, 2)), ((1, 1), (1, 1))], (2, 3)))

    def test_what_is_told_is_new(self):
        one = ([((0, 1), (0, 1)), ((1, 1), (3, 1))], (1, 2))
        told = plain(one)
        self.assertIsNot(told[0], one[0])
        told[0].append(None)
        self.assertEqual(one, ([((0, 1), (0, 1)), ((1, 1), (3, 1))], (1, 2)))
        self.assertEqual(plain(one), one)

    def test_asked(self):
        chance = Chance(6)
        for _ in range(60):
            one = chance.curve()
            for moment in moments_in(one):
                for same in (one, with_needless(one), unlowered(swapped(one))):
                    self.assertEqual(worth_at(same, unlowered(pair(moment))), pair(worth(one, moment)))
                    self.assertEqual(slope_at(same, list(pair(moment))), pair(slope_behind(one, moment)))

    def test_example(self):
        self.assertEqual(worth_at(c, (2, 1)), (3, 1))
        self.assertEqual(slope_at(c, (1, 1)), (0, 1))
        self.assertEqual(first_at(c, (4, 1)), (5, 1))
        self.assertEqual(area(c, (0, 1), (3, 1)), (15, 2))
        self.assertEqual(first_above(c, h), (1, 2))

    def test_by_names(self):
        self.assertTrue(is_curve(thing=c))
        self.assertEqual(plain(curve=c), c)
        self.assertEqual(worth_at(curve=c, moment=(2, 1)), (3, 1))
        self.assertEqual(slope_at(curve=c, moment=(3, 1)), (1, 2))
        self.assertEqual(first_at(curve=c, worth=(4, 1)), (5, 1))
        self.assertEqual(first_above(other=h, one=c), (1, 2))
        self.assertEqual(first_apart(other=h, one=c), (0, 1))
        self.assertEqual(area(end=(3, 1), begin=(0, 1), curve=c), (15, 2))


class FirstMomentsTest(unittest.TestCase):
    def check_first(self, told, gaps, is_so, moments):
        """That told is the least moment at which or right behind which gaps are so."""
        if told is None:
            for moment in moments:
                self.assertFalse(is_so(gaps(moment)))
            return
        first = frac(told)
        for moment in moments:
            if moment < first:
                self.assertFalse(is_so(gaps(moment)))
        # So soon that nothing bends or crosses between.
        self.assertTrue(is_so(gaps(first + Fraction(1, 10 ** 9))))

    def test_first_at_by_hand(self):
        one = curve([(0, 2), (2, -1), (4, 3), (6, 3), (7, 1)], Fraction(1, 2))
        for height, moment in ((-5, 0), (2, 0), (Fraction(5, 2), Fraction(15, 4)), (3, 4), (4, 13)):
            self.assertEqual(first_at(one, pair(height)), pair(moment))
        self.assertIsNone(first_at(curve([(0, 0), (1, 5)], 0), (11, 2)))
        self.assertEqual(first_at(curve([(0, 0), (1, 5)], 0), (5, 1)), (1, 1))
        self.assertIsNone(first_at(curve([(0, 0)], -1), (1, 100)))
        self.assertEqual(first_at(curve([(0, 0)], -1), (0, 1)), (0, 1))
        self.assertEqual(first_at(curve([(0, -3)], 2), (0, 7)), (3, 2))

    def test_first_at(self):
        chance = Chance(7)
        for _ in range(150):
            one = chance.curve()
            for height in [chance.fraction(-15, 15) for _ in range(4)] + [frac(corner[1]) for corner in one[0]]:
                told = first_at(one, pair(height))
                self.assertEqual(told, first_at(with_needless(unlowered(one)), unlowered(pair(height))))
                if told is None:
                    self.assertTrue(all([worth(one, moment) < height for moment in moments_in(one)]))
                    continue
                self.assertGreaterEqual(worth(one, frac(told)), height)
                for moment in moments_in(one):
                    if moment < frac(told):
                        self.assertLess(worth(one, moment), height)
                if told != (0, 1):
                    self.assertEqual(worth(one, frac(told)), height)

    def test_first_above_by_hand(self):
        flat = curve([(0, 0)], 0)
        for one, moment in ((curve([(0, 1)], -1), 0), (curve([(0, 0)], 1), 0), (curve([(0, -1)], 1), 1),
                            (curve([(0, -1), (2, 0), (3, 0)], 1), 3), (curve([(0, -1), (2, 0), (3, -1)], 0), None),
                            (curve([(0, -1), (2, 0)], 0), None), (curve([(0, 0)], -1), None), (flat, None),
                            (curve([(0, -2), (2, 2)], -1), 1), (curve([(0, 0), (1, -1), (2, 0)], 1), 2)):
            self.assertEqual(first_above(one, flat), None if moment is None else pair(moment))

    def test_first_above(self):
        chance = Chance(8)
        for _ in range(200):
            one, other = chance.curve(4, -4, 4, (-3, 3)), chance.curve(4, -4, 4, (-3, 3))
            told = first_above(one, other)
            self.assertEqual(told, first_above(with_needless(one), unlowered(swapped(other))))
            self.check_first(told, lambda moment: worth(one, moment) - worth(other, moment),
                             lambda gap: gap > 0, moments_in(one, other))

    def test_first_apart_by_hand(self):
        one = curve([(0, 1), (2, 3), (4, 3)], -1)
        for other, moment in ((one, None), (with_needless(one), None), (curve([(0, 2), (2, 3), (4, 3)], -1), 0),
                              (curve([(0, 1), (2, 4), (4, 3)], -1), 0), (curve([(0, 1), (2, 3), (4, 4)], -1), 2),
                              (curve([(0, 1), (2, 3), (4, 3)], 1), 4), (curve([(0, 1), (2, 3)], 0), 4),
                              (curve([(0, 1), (1, 2)], 0), 1), (curve([(0, 3), (2, 5), (4, 5)], -1), 0)):
            self.assertEqual(first_apart(one, other), None if moment is None else pair(moment))
            self.assertEqual(first_apart(other, one), None if moment is None else pair(moment))

    def test_apart_at_once_and_never_again(self):
        self.assertEqual(first_apart(curve([(0, 1)], 0), curve([(0, 2)], 0)), (0, 1))
        self.assertEqual(first_apart(curve([(0, 1)], 0), curve([(0, 2), (1, 1)], 0)), (0, 1))
        self.assertEqual(first_apart(curve([(0, 1), (1, 1), (2, 2), (3, 1)], 0), curve([(0, 1)], 0)), (1, 1))

    def test_first_apart(self):
        chance = Chance(9)
        for _ in range(200):
            one = chance.curve(4)
            other = chance.curve(4)
            if chance.number(0, 2):
                part = chance.number(1, len(one[0]))
                other = (one[0][:part] + [((50, 1), (chance.number(-9, 9), 1))], chance.curve()[1])
            told = first_apart(one, other)
            self.assertEqual(told, first_apart(unlowered(other), with_needless(one)))
            self.check_first(told, lambda moment: worth(one, moment) - worth(other, moment),
                             lambda gap: gap != 0, moments_in(one, other))
            self.assertIsNone(first_apart(one, with_needless(swapped(one))))


class AreaTest(unittest.TestCase):
    def test_by_hand(self):
        one = curve([(0, 2), (2, -2), (3, -2)], 4)
        for begin, end, found in ((0, 1, 1), (0, 2, 0), (1, 2, -1), (0, 3, -2), (2, 3, -2), (0, 4, -2), (4, 5, 4),
                                  (Fraction(1, 2), Fraction(3, 2), 0), (3, 5, 4), (100, 101, 388)):
            self.assertEqual(area(one, pair(begin), pair(end)), pair(found))
        for begin, end in ((1, 1), (2, 1), (50, 0), (0, 0)):
            self.assertEqual(area(one, pair(begin), pair(end)), (0, 1))

    def test_by_sums(self):
        chance = Chance(10)
        for _ in range(150):
            one = chance.curve()
            begin, end = chance.fraction(0, 30), chance.fraction(0, 30)
            moments = [moment for moment in moments_in(one) if begin < moment < end]
            moments = [begin] + moments + [end]
            found = sum([(worth(one, first) + worth(one, second)) / 2 * (second - first)
                         for first, second in zip(moments, moments[1:])])
            told = area(one, pair(begin), unlowered(pair(end)))
            self.assertEqual(told, pair(found) if begin < end else (0, 1))
            self.assertEqual(area(with_needless(swapped(one)), list(pair(begin)), pair(end)), told)


class CurveErrorsTest(unittest.TestCase):
    def test_bad_curve(self):
        for thing in NO_CURVES:
            check_error(self, BadCurve, "thing", thing, plain, thing)
            check_error(self, BadCurve, "thing", thing, worth_at, thing, None)
            check_error(self, BadCurve, "thing", thing, slope_at, thing, None)
            check_error(self, BadCurve, "thing", thing, first_at, thing, None)
            check_error(self, BadCurve, "thing", thing, first_above, thing, None)
            check_error(self, BadCurve, "thing", thing, first_above, c, thing)
            check_error(self, BadCurve, "thing", thing, first_apart, thing, None)
            check_error(self, BadCurve, "thing", thing, first_apart, c, thing)
            check_error(self, BadCurve, "thing", thing, area, thing, None, None)

    def test_bad_moments(self):
        for thing in NO_MOMENTS:
            check_error(self, BadMoment, "thing", thing, worth_at, c, thing)
            check_error(self, BadMoment, "thing", thing, slope_at, c, thing)
            check_error(self, BadMoment, "thing", thing, area, c, thing, None)
            check_error(self, BadMoment, "thing", thing, area, c, (5, 1), thing)

    def test_bad_worths(self):
        for thing in NO_FRACTIONS:
            check_error(self, BadFraction, "thing", thing, first_at, c, thing)


if __name__ == "__main__":
    unittest.main()
