"""4.4 what is made of curves, 4.5 comers and curves, and what 4.8 shows of them."""

import unittest
from fractions import Fraction

from quickbythen.errors import BadComers, BadFraction
from quickbythen.madecurves import (added, behind, comers_of, curve_of, difference, greatest_of, least_of, scaled,
                                    turned)
from quickbythen.refusals import BadCurve, BadCurves, IsBelow, NotGrowing, NotRising
from tests.helpers import (NO_FRACTIONS, ODD, ZERO_CURVE, Chance, check_error, check_told_comers, check_told_curve,
                           comers, curve, frac, heap, moments_in, pair, swapped, unlowered, with_like_neighbours,
                           with_needless, worth)
from tests.test_curves import NO_CURVES, c

ITSELF = ([((0, 1), (0, 1))], (1, 1))


def same_ones(one):
    return [one, swapped(one), unlowered(one), with_needless(one), unlowered(swapped(with_needless(one)))]


class OfSomeTest(unittest.TestCase):
    def check_made(self, made, best, curves):
        told = made(curves)
        check_told_curve(self, told)
        for moment in moments_in(told, *curves) + moments_in(*curves):
            self.assertEqual(worth(told, moment), best([worth(one, moment) for one in curves]))
        for same in ([with_needless(one) for one in curves], swapped(curves), unlowered(curves)):
            self.assertEqual(made(same), told)

    def test_all(self):
        chance = Chance(11)
        for _ in range(120):
            curves = [chance.curve(4, -5, 5, (-3, 3)) for _ in range(chance.number(1, 5))]
            self.check_made(added, sum, curves)
            self.check_made(least_of, min, curves)
            self.check_made(greatest_of, max, curves)

    def test_by_hand(self):
        one, other = curve([(0, 0), (2, 4)], -1), curve([(0, 2)], Fraction(1, 2))
        # They cross at 4/3, and behind all corners at 4.
        self.assertEqual(least_of([one, other]),
                         curve([(0, 0), (Fraction(4, 3), Fraction(8, 3)), (Fraction(8, 3), Fraction(10, 3))], -1))
        self.assertEqual(greatest_of([one, other]),
                         curve([(0, 2), (Fraction(4, 3), Fraction(8, 3)), (2, 4), (Fraction(8, 3), Fraction(10, 3))],
                               Fraction(1, 2)))
        self.assertEqual(added([one, other]), curve([(0, 2), (2, 7)], Fraction(-1, 2)))
        self.assertEqual(least_of([curve([(0, 0)], 1), curve([(0, 4)], -1)]), curve([(0, 0), (2, 2)], -1))
        self.assertEqual(greatest_of([curve([(0, 0)], 1), curve([(0, 4)], -1)]), curve([(0, 4), (2, 2)], 1))
        self.assertEqual(least_of([curve([(0, 1)], 1), curve([(0, 1)], 2)]), curve([(0, 1)], 1))
        self.assertEqual(greatest_of([curve([(0, 1)], 1), curve([(0, 1)], 2)]), curve([(0, 1)], 2))

    def test_none_and_one(self):
        self.assertEqual(added([]), ZERO_CURVE)
        self.assertEqual(added(()), ZERO_CURVE)
        for made in (added, least_of, greatest_of):
            self.assertEqual(made([c]), c)
            self.assertEqual(made(curves=(c,)), c)
            self.assertIsNot(made([c])[0], c[0])
        added([])[0].append(None)
        self.assertEqual(added([]), ZERO_CURVE)

    def test_what_is_passed_stays(self):
        curves = [([((0, 2), (0, 1)), ((1, 1), (3, 3))], (1, 1)), ([((0, 1), (4, 2))], (-1, 1))]
        for made in (added, least_of, greatest_of):
            made(curves)
        self.assertEqual(curves, [([((0, 2), (0, 1)), ((1, 1), (3, 3))], (1, 1)), ([((0, 1), (4, 2))], (-1, 1))])

    def test_bad_curves(self):
        for made in (added, least_of, greatest_of):
            for thing in (None, 4, "", "a", {}, {0: c}, True, len):
                check_error(self, BadCurves, "index", 0, made, thing)
            for thing in NO_CURVES:
                check_error(self, BadCurves, "index", 2, made, [c, c, thing, 5])
                check_error(self, BadCurves, "index", 0, made, [thing])
        for made in (least_of, greatest_of):
            check_error(self, BadCurves, "index", 0, made, [])
            check_error(self, BadCurves, "index", 0, made, ())


class OfOneAndTwoTest(unittest.TestCase):
    def test_scaled(self):
        chance = Chance(12)
        for _ in range(60):
            one, factor = chance.curve(), chance.fraction(-4, 4)
            told = scaled(one, pair(factor))
            check_told_curve(self, told)
            for moment in moments_in(one):
                self.assertEqual(worth(told, moment), factor * worth(one, moment))
            for same in same_ones(one):
                self.assertEqual(scaled(same, unlowered(pair(factor))), told)
        self.assertEqual(scaled(c, (0, 5)), ZERO_CURVE)
        self.assertEqual(scaled(curve=c, factor=(-1, 1)), difference(ZERO_CURVE, c))

    def test_difference(self):
        chance = Chance(13)
        for _ in range(60):
            one, other = chance.curve(), chance.curve()
            told = difference(one, other)
            check_told_curve(self, told)
            for moment in moments_in(one, other):
                self.assertEqual(worth(told, moment), worth(one, moment) - worth(other, moment))
            for same in same_ones(other):
                self.assertEqual(difference(same, one), scaled(told, (-1, 1)))
        self.assertEqual(difference(one=c, other=c), ZERO_CURVE)

    def test_errors(self):
        for thing in NO_CURVES:
            check_error(self, BadCurve, "thing", thing, scaled, thing, None)
            check_error(self, BadCurve, "thing", thing, difference, thing, None)
            check_error(self, BadCurve, "thing", thing, difference, c, thing)
        for thing in NO_FRACTIONS:
            check_error(self, BadFraction, "thing", thing, scaled, c, thing)


class BehindTest(unittest.TestCase):
    def test_example(self):
        self.assertEqual(behind(c, ([((0, 1), (2, 1))], (1, 1))), ([((0, 1), (3, 1)), ((1, 1), (3, 1))], (1, 2)))

    def test_all(self):
        chance = Chance(14)
        for _ in range(150):
            one = chance.curve()
            other = chance.curve(5, 0, 12, (0, 4))
            told = behind(one, other)
            check_told_curve(self, told)
            for moment in moments_in(told, other) + moments_in(one):
                self.assertEqual(worth(told, moment), worth(one, worth(other, moment)))
            for first, second in zip(same_ones(one), same_ones(other)):
                self.assertEqual(behind(first, other), told)
                self.assertEqual(behind(one, second), told)

    def test_back_and_forth(self):
        # other rises to 4 and falls to 0, so it goes by the corners of one twice.
        one = curve([(0, 0), (1, 5), (2, 0), (3, 1)], 1)
        other = curve([(0, 0), (4, 4), (8, 0)], 0)
        told = behind(one=one, other=other)
        self.assertEqual(told, curve([(0, 0), (1, 5), (2, 0), (4, 2), (6, 0), (7, 5), (8, 0)], 0))
        self.assertEqual(behind(one, curve([(0, 2), (1, 0), (2, 0)], 3)),
                         curve([(0, 0), (Fraction(1, 2), 5), (1, 0), (2, 0), (Fraction(7, 3), 5), (Fraction(8, 3), 0)],
                               3))

    def test_below(self):
        for other, moment in ((curve([(0, -1)], 1), 0), (curve([(0, 0)], -1), 0), (curve([(0, 2)], -1), 2),
                              (curve([(0, 2), (2, 0), (3, 0)], -1), 3), (curve([(0, 1), (2, -1), (3, 5)], 1), 1),
                              (curve([(0, 0), (1, 0), (2, -1)], 5), 1)):
            for same in same_ones(other):
                check_error(self, IsBelow, "moment", pair(moment), behind, c, same)
        self.assertEqual(behind(c, curve([(0, 1), (1, 0), (2, 1)], 0)), curve([(0, 3), (1, 0), (2, 3)], 0))

    def test_errors(self):
        low = curve([(0, -1)], 0)
        for thing in NO_CURVES:
            check_error(self, BadCurve, "thing", thing, behind, thing, low)
            check_error(self, BadCurve, "thing", thing, behind, thing, None)
            check_error(self, BadCurve, "thing", thing, behind, c, thing)


class TurnedTest(unittest.TestCase):
    def test_example(self):
        self.assertEqual(turned(([((0, 1), (0, 1)), ((2, 1), (1, 1))], (3, 1))),
                         ([((0, 1), (0, 1)), ((1, 1), (2, 1))], (1, 3)))

    def test_facts(self):
        chance = Chance(15)
        for _ in range(100):
            one = chance.growing()
            told = turned(one)
            check_told_curve(self, told)
            for moment in moments_in(one):
                self.assertEqual(worth(told, worth(one, moment)), moment)
            for same in same_ones(one):
                self.assertEqual(turned(curve=same), told)
                self.assertEqual(behind(same, told), ITSELF)
                self.assertEqual(behind(told, same), ITSELF)
            self.assertEqual(turned(told), added([one]))

    def test_not_growing(self):
        for one, moment in ((curve([(0, 1)], 0), 0), (curve([(0, -1), (1, 0)], 0), 0), (curve([(0, 0)], 0), 0),
                            (curve([(0, 0)], -1), 0), (curve([(0, 0), (1, 1), (2, 1), (3, 0)], 1), 1),
                            (curve([(0, 0), (1, 1), (3, 2)], 0), 3), (curve([(0, 0), (1, 1), (3, 2)], -1), 3),
                            (curve([(0, 0), (1, 1), (2, 0)], 1), 1), (curve([(0, 0), (1, 1), (2, 3), (3, 3)], 1), 2),
                            (curve([(0, 1), (1, 2), (2, 2)], 1), 0)):
            for same in same_ones(one):
                check_error(self, NotGrowing, "moment", pair(moment), turned, same)
        for thing in NO_CURVES:
            check_error(self, BadCurve, "thing", thing, turned, thing)


class ComersTest(unittest.TestCase):
    def test_curve_of(self):
        chance = Chance(16)
        for _ in range(100):
            steps = chance.comers()
            told = curve_of(steps)
            check_told_curve(self, told)
            for moment in moments_in(told) + [frac(step[0]) for step in steps]:
                self.assertEqual(worth(told, moment), heap(steps, moment))
            for same in (swapped(steps), unlowered(steps), with_like_neighbours(steps)):
                self.assertEqual(curve_of(comers=same), told)

    def test_fact(self):
        chance = Chance(17)
        for _ in range(100):
            steps = chance.comers()
            told = comers_of(curve_of(steps))
            check_told_comers(self, told)
            self.assertEqual(curve_of(told), curve_of(steps))
            self.assertEqual(comers_of(curve_of(told)), told)
            one = chance.rising()
            for same in same_ones(one):
                self.assertEqual(curve_of(comers_of(curve=same)), added([one]))
                check_told_comers(self, comers_of(same))

    def test_by_hand(self):
        steps = comers((0, 5), (2, 1), (3, 1), (5, 0))
        self.assertEqual(curve_of(steps), curve([(0, 0), (2, 10), (5, 13)], 0))
        self.assertEqual(comers_of(curve_of(steps)), comers((0, 5), (2, 1), (5, 0)))
        self.assertEqual(comers_of(ZERO_CURVE), comers((0, 0)))
        self.assertEqual(curve_of(comers((0, 0), (4, 0))), ZERO_CURVE)

    def test_not_rising(self):
        for one, moment in ((curve([(0, 1)], 0), 0), (curve([(0, -1)], 1), 0), (curve([(0, 0)], -1), 0),
                            (curve([(0, 0), (1, 1)], -1), 1), (curve([(0, 0), (1, 1), (2, 1), (3, 0)], 1), 2),
                            (curve([(0, 0), (1, 2), (2, 1), (3, 0)], 1), 1), (curve([(0, 1), (1, 2), (2, 1)], 1), 0)):
            for same in same_ones(one):
                check_error(self, NotRising, "moment", pair(moment), comers_of, same)

    def test_errors(self):
        for thing in NO_CURVES:
            check_error(self, BadCurve, "thing", thing, comers_of, thing)
        for thing in ODD:
            check_error(self, BadComers, "index", 1, curve_of, [((0, 1), (1, 1)), thing])
        check_error(self, BadComers, "index", 0, curve_of, [])
        check_error(self, BadComers, "index", 0, curve_of, {})


if __name__ == "__main__":
    unittest.main()
