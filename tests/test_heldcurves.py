"""4.6 kept to a slope, 4.7 between or too steep, and what 4.8 shows of them."""

import unittest
from fractions import Fraction

from quickbythen.curves import first_above, plain
from quickbythen.errors import BadFraction
from quickbythen.heldcurves import held_back, kept_between, pushed_ahead, risen, too_steep
from quickbythen.refusals import BadCurve
from tests.helpers import (NO_FRACTIONS, Chance, check_error, check_told_curve, curve, frac, is_lowest, moments_in,
                           pair, slope_behind, swapped, unlowered, with_needless, worth)
from tests.test_curves import NO_CURVES, c, h


def keeps_to(one, most):
    return all([slope_behind(one, frac(corner[0])) <= most for corner in one[0]])


class KeptTest(unittest.TestCase):
    def test_example(self):
        self.assertEqual(held_back(c, (2, 1)),
                         ([((0, 1), (0, 1)), ((3, 2), (3, 1)), ((3, 1), (3, 1))], (1, 2)))
        self.assertEqual(pushed_ahead(c, (2, 1)),
                         ([((0, 1), (1, 1)), ((1, 1), (3, 1)), ((3, 1), (3, 1))], (1, 2)))
        self.assertIsNone(pushed_ahead(c, (0, 1)))
        self.assertEqual(risen(([((0, 1), (2, 1)), ((1, 1), (0, 1))], (1, 1))),
                         ([((0, 1), (2, 1)), ((3, 1), (2, 1))], (1, 1)))

    def check_risen(self, one):
        told = risen(one)
        check_told_curve(self, told)
        corners = [frac(corner[0]) for corner in one[0]]
        for moment in moments_in(told, one):
            up_to = [worth(one, corner) for corner in corners if corner <= moment]
            self.assertEqual(worth(told, moment), max(up_to + [worth(one, moment)]))
        return told

    def test_risen(self):
        chance = Chance(18)
        for _ in range(150):
            one = chance.curve()
            told = self.check_risen(one)
            for same in (swapped(one), unlowered(one), with_needless(one)):
                self.assertEqual(risen(curve=same), told)
            self.assertEqual(risen(told), told)

    def test_risen_by_hand(self):
        for one, told in ((curve([(0, 2)], -1), curve([(0, 2)], 0)), (curve([(0, -2)], 1), curve([(0, -2)], 1)),
                          (curve([(0, 1), (1, 3), (2, 0), (4, 3), (5, 2)], 0), curve([(0, 1), (1, 3)], 0)),
                          (curve([(0, 1), (1, 3), (2, 0), (4, 4)], -5),
                           curve([(0, 1), (1, 3), (Fraction(7, 2), 3), (4, 4)], 0)),
                          (curve([(0, 1), (1, 0), (2, 1)], 1), curve([(0, 1), (2, 1)], 1))):
            self.assertEqual(risen(one), told)

    def test_held_back(self):
        chance = Chance(19)
        for _ in range(150):
            one, most = chance.curve(), chance.fraction(-4, 4)
            told = held_back(one, pair(most))
            check_told_curve(self, told)
            self.assertTrue(keeps_to(told, most))
            corners = [frac(corner[0]) for corner in one[0]]
            for moment in moments_in(told, one):
                up_to = [worth(one, then) + most * (moment - then) for then in corners + [moment] if then <= moment]
                self.assertEqual(worth(told, moment), min(up_to))
            self.assertEqual(told[0][0], plain(one)[0][0])
            for same in (swapped(one), unlowered(one), with_needless(one)):
                self.assertEqual(held_back(same, unlowered(pair(most))), told)

    def test_held_back_twice(self):
        chance = Chance(20)
        for _ in range(60):
            one, first, second = chance.curve(), chance.fraction(-4, 4), chance.fraction(-4, 4)
            twice = held_back(held_back(one, pair(first)), pair(second))
            self.assertEqual(twice, held_back(curve=one, most=pair(min(first, second))))

    def test_pushed_ahead(self):
        chance = Chance(21)
        for _ in range(200):
            one, most = chance.curve(), chance.fraction(-4, 6)
            told = pushed_ahead(one, pair(most))
            self.assertEqual(told is None, frac(one[1]) > most)
            for same in (swapped(one), unlowered(one), with_needless(one)):
                self.assertEqual(pushed_ahead(same, unlowered(pair(most))), told)
            if told is None:
                continue
            check_told_curve(self, told)
            self.assertTrue(keeps_to(told, most))
            corners = [frac(corner[0]) for corner in one[0]]
            for moment in moments_in(told, one):
                from_it = [worth(one, then) - most * (then - moment) for then in corners + [moment] if then >= moment]
                self.assertEqual(worth(told, moment), max(from_it))

    def test_pushed_ahead_by_hand(self):
        self.assertEqual(pushed_ahead(curve=curve([(0, 0), (2, 6)], 1), most=(1, 1)), curve([(0, 4)], 1))
        self.assertEqual(pushed_ahead(curve([(0, 3), (1, 0), (2, 0), (3, 2)], 0), (1, 1)),
                         curve([(0, 3), (1, 0), (3, 2)], 0))
        self.assertEqual(pushed_ahead(curve([(0, 3), (1, 0), (2, 2)], 0), (1, 1)),
                         curve([(0, 3), (Fraction(3, 4), Fraction(3, 4)), (2, 2)], 0))
        self.assertEqual(pushed_ahead(curve([(0, 0)], 2), (2, 1)), curve([(0, 0)], 2))
        self.assertIsNone(pushed_ahead(curve([(0, 0)], 2), (199, 100)))
        self.assertEqual(pushed_ahead(curve([(0, 0), (1, 2)], -5), (0, 1)), curve([(0, 2), (1, 2)], -5))

    def test_what_is_passed_stays(self):
        one = [[[[0, 2], [0, 2]], [[1, 1], [6, 2]]], [1, 2]]
        for call in (held_back, pushed_ahead):
            call(one, [4, 2])
        risen(one)
        kept_between(one, one, [4, 2])
        too_steep(one, one, [4, 2])
        self.assertEqual(one, [[[[0, 2], [0, 2]], [[1, 1], [6, 2]]], [1, 2]])
        told = risen(c)
        self.assertIsNot(told[0], c[0])

    def test_errors(self):
        for thing in NO_CURVES:
            check_error(self, BadCurve, "thing", thing, risen, thing)
            check_error(self, BadCurve, "thing", thing, held_back, thing, None)
            check_error(self, BadCurve, "thing", thing, pushed_ahead, thing, None)
        for thing in NO_FRACTIONS:
            check_error(self, BadFraction, "thing", thing, held_back, c, thing)
            check_error(self, BadFraction, "thing", thing, pushed_ahead, c, thing)


class BetweenTest(unittest.TestCase):
    def check_between(self, low, high, most):
        told = kept_between(low, high, pair(most))
        steep = too_steep(low, high, pair(most))
        self.assertEqual(told is None, steep is not None)
        if told is not None:
            check_told_curve(self, told)
            self.assertTrue(keeps_to(told, most))
            self.assertIsNone(first_above(low, told))
            self.assertIsNone(first_above(told, high))
        else:
            self.assertIs(type(steep), tuple)
            begin, end = frac(steep[0]), frac(steep[1])
            self.assertTrue(is_lowest(steep[0]) and is_lowest(steep[1]))
            self.assertTrue(0 <= begin <= end)
            self.assertGreater(worth(low, end), worth(high, begin) + most * (end - begin))
        for first, second in ((with_needless(low), unlowered(high)), (swapped(low), with_needless(high))):
            self.assertEqual(kept_between(first, second, unlowered(pair(most))), told)
            self.assertEqual(too_steep(first, second, list(pair(most))), steep)
        return told is None

    def test_just_one(self):
        chance = Chance(22)
        found = [0, 0]
        for _ in range(300):
            low, high, most = chance.curve(4, -8, 2, (-4, 1)), chance.curve(4, 0, 8, (-1, 4)), chance.fraction(-2, 6)
            found[self.check_between(low, high, most)] += 1
        self.assertGreater(min(found), 40)

    def test_edges(self):
        flat = curve([(0, 0)], 0)
        for low, high, most, is_none in (
                (flat, flat, 0, False), (flat, flat, Fraction(-1, 9), True), (curve([(0, 1)], -3), flat, 5, True),
                (curve([(0, 1), (1, -5)], -1), flat, 5, True), (curve([(0, 0)], 1), flat, 5, True),
                (curve([(0, -1)], 1), flat, 5, True), (curve([(0, -1), (1, 0)], 0), flat, 0, False),
                (curve([(0, -1), (1, 0), (2, -1)], 0), flat, -1, True),
                (curve([(0, 0), (1, 0), (2, 3)], 0), curve([(0, 0), (1, 0), (2, 3)], 0), 3, False),
                (curve([(0, 0), (1, 0), (2, 3)], 0), curve([(0, 0), (1, 0), (2, 3)], 0), Fraction(29, 10), True),
                (curve([(0, 0)], 2), curve([(0, 10)], 3), 2, False), (curve([(0, 0)], 2), curve([(0, 10)], 3), 1, True)):
            self.assertEqual(self.check_between(low, high, most), is_none)

    def test_example(self):
        self.assertIsNone(kept_between(c, h, (5, 1)))
        begin, end = too_steep(c, h, (5, 1))
        self.assertGreater(worth(c, frac(end)), worth(h, frac(begin)) + 5 * (frac(end) - frac(begin)))
        self.assertEqual(kept_between(low=c, high=c, most=(3, 1)), c)

    def test_errors(self):
        for call in (kept_between, too_steep):
            for thing in NO_CURVES:
                check_error(self, BadCurve, "thing", thing, call, thing, None, None)
                check_error(self, BadCurve, "thing", thing, call, c, thing, None)
            for thing in NO_FRACTIONS:
                check_error(self, BadFraction, "thing", thing, call, c, h, thing)


if __name__ == "__main__":
    unittest.main()
