"""12.4 and 12.5: bundles that are never later, and of two; and what 12.8 shows of them."""

import unittest
from fractions import Fraction

from quickbythen.bundles import cut_lanes, lanes_of
from quickbythen.bundlethrough import time_through
from quickbythen.curves import first_above
from quickbythen.errors import BadComers
from quickbythen.laterbundles import (alike_bundles, as_quick_as_both, as_slow_as_both, later_steady, later_until,
                                      never_later)
from quickbythen.refusals import BadBundle, BadMost
from tests.helpers import (Chance, check_doors, check_error, comers, frac, is_lowest, pair, swapped, unlowered, worth)
from tests.test_bundles import BAD_BUNDLES, BAD_MOSTS, BAD_ROWS, B, any_bundle, room_by_words
from tests.test_bundlethrough import C
from tests.test_phases import BAD_COMERS

D = [[(1, 2)]]


def lesser(room, most):
    return room if most is None else min(room, most)


def first_lack(one, other, most):
    """By 12.4, number by number: the first one by which one has too little, and how much it should have."""
    for number in range(40):
        wanted = lesser(Fraction(room_by_words(other, number)), most)
        if room_by_words(one, number) < wanted:
            return number, wanted
    return None


def many_pairs(chance, many):
    for _ in range(many):
        one, other = any_bundle(chance), any_bundle(chance)
        most = chance.random.choice([None, Fraction(chance.number(1, 8)), chance.fraction(0, 9) + Fraction(1, 60)])
        yield one, other + chance.random.choice([[], one]), most


class LaterTest(unittest.TestCase):
    def check_pair(self, chance, one, other, most):
        bound = None if most is None else pair(most)
        lack = first_lack(one, other, most)
        told = later_steady(one, other, bound)
        self.assertIs(never_later(one, other, bound), lack is None)
        passed = (swapped(one), tuple(other), None if most is None else list(unlowered(bound)))
        self.assertEqual(later_steady(*passed), told)
        self.assertIs(never_later(*passed), lack is None)
        is_alike = lack is None and first_lack(other, one, most) is None
        self.assertIs(alike_bundles(one, other, bound), is_alike)
        self.assertIs(alike_bundles(*passed), is_alike)
        self.assertEqual(is_alike, cut_lanes(one, bound) == cut_lanes(other, bound))
        if lack is None:
            self.assertIsNone(told)
            self.check_never(chance, one, other, most)
        else:
            self.assertTrue(is_lowest(told))
            self.assertEqual(frac(told), lack[1])
            self.check_steady(one, other, told, lack[0], most)
        return lack is None

    def check_never(self, chance, one, other, most):
        """Whatever comes at rates up to most, nobody takes longer by one."""
        for _ in range(3):
            steps = [(moment, pair(lesser(frac(rate), most))) for moment, rate in chance.comers(4, 15)]
            self.assertIsNone(later_until(one, other, steps))
            self.assertIsNone(first_above(time_through(one, steps), time_through(other, steps)))

    def check_steady(self, one, other, rate, number, most):
        """Steady comers rest by this number at the latest through other, and not by it through one."""
        steps = [((0, 1), rate)]
        self.assertTrue(most is None or frac(rate) <= most)
        by_other, by_one = time_through(other, steps), time_through(one, steps)
        self.assertEqual(by_other[1], (0, 1))
        self.assertLessEqual(frac(by_other[0][-1][1]), number)
        self.assertTrue(by_one[1][0] > 0 or frac(by_one[0][-1][1]) > number)
        self.assertIsNotNone(later_until(one, other, steps))
        room = room_by_words(one, number)
        if room > 0:
            self.assertTrue(never_later(one, other, (room, 1)))
            self.assertIsNone(later_steady(one, other, (room, 1)))

    def test_samples(self):
        chance = Chance(151)
        found = [0, 0]
        for one, other, most in many_pairs(chance, 150):
            found[self.check_pair(chance, one, other, most)] += 1
            self.check_pair(chance, other, one, most)
        self.assertGreater(min(found), 20)

    def test_alike(self):
        chance = Chance(152)
        for same in ([[(1, 2)], [(3, 2)]], [[(3, 1)], [(1, 1)], [(2, 7), (1, 1)], [(1, 1)]]):
            self.assertTrue(alike_bundles(B, same, None))
            self.assertTrue(never_later(B, same, None) and never_later(same, B, None))
            steps = chance.comers(4, 15)
            self.assertEqual(time_through(same, steps), time_through(B, steps))
        longer = B + [[(9, 4)]]
        self.assertFalse(alike_bundles(B, longer, None))
        for most, is_alike in ((4, True), (Fraction(401, 100), False), (1, True)):
            self.assertIs(alike_bundles(B, longer, pair(most)), is_alike)
            self.assertIs(never_later(B, longer, pair(most)), is_alike)
            self.assertTrue(never_later(longer, B, pair(most)))

    def test_most(self):
        # Just enough, and a little less: D has two by length 1, B four by length 3.
        self.assertIsNone(later_steady(D, B, (2, 1)))
        self.assertEqual(later_steady(D, B, (201, 100)), (201, 100))
        self.assertEqual(later_steady(D, B, (9, 1)), (4, 1))
        self.assertEqual(later_steady([[(2, 9)]], B, (1, 3)), (1, 3))
        self.assertEqual(later_steady([[(2, 9)]], B, (5, 1)), (2, 1))
        self.assertIsNone(later_steady([[(1, 9)]], B, None))

    def test_later_until(self):
        chance = Chance(153)
        found = [0, 0]
        for one, other, _ in many_pairs(chance, 80):
            steps = chance.comers(4, 15)
            told = later_until(one, other, steps)
            first, second = time_through(one, steps), time_through(other, steps)
            self.assertEqual(told, first_above(first, second))
            self.assertEqual(later_until(swapped(one), other, swapped(unlowered(steps))), told)
            found[told is None] += 1
            if told is not None:
                # Behind it, at once, one takes longer; up to it at no moment.
                for part in (Fraction(1, 10 ** 9), Fraction(1, 10 ** 6)):
                    self.assertGreater(worth(first, frac(told) + part), worth(second, frac(told) + part))
                for part in range(8 if told != (0, 1) else 0):
                    moment = frac(told) * part / 8
                    self.assertLessEqual(worth(first, moment), worth(second, moment))
        self.assertGreater(min(found), 10)
        self.assertEqual(later_until([[(2, 9)]], B, comers((0, 0))), (0, 1))

    def test_example(self):
        self.assertIs(never_later(D, B, None), False)
        self.assertEqual(later_steady(D, B, None), (4, 1))
        self.assertEqual(later_until(D, B, C), (1, 1))
        self.assertIs(alike_bundles(D, B, (2, 1)), True)
        self.assertIs(never_later(B, D, None), True)


class OfTwoTest(unittest.TestCase):
    def rows_of(self, lanes):
        return [[lane] for lane in lanes]

    def test_samples(self):
        chance = Chance(154)
        for one, other, _ in many_pairs(chance, 100):
            quick, slow = as_quick_as_both(one, other), as_slow_as_both(one, other)
            for told, choose in ((quick, max), (slow, min)):
                self.assertTrue(type(told) is list and all([type(lane) is tuple for lane in told]))
                self.assertTrue(all([type(part) is int for lane in told for part in lane]))
                self.assertEqual(told, sorted(told))
                self.assertTrue(all([room > 0 for _, room in told]))
                for number in range(30):
                    room = sum([room for length, room in told if length <= number])
                    self.assertEqual(room, choose(room_by_words(one, number), room_by_words(other, number)))
                self.assertEqual(lanes_of(self.rows_of(told)), told)
            self.assertEqual(as_quick_as_both(swapped(other), tuple(one)), quick)
            self.assertEqual(as_slow_as_both(swapped(other), tuple(one)), slow)
            self.check_bounds(chance, one, other, self.rows_of(quick), self.rows_of(slow))

    def check_bounds(self, chance, one, other, quick, slow):
        for bundle in (one, other):
            self.assertTrue(never_later(quick, bundle, None))
            self.assertTrue(never_later(bundle, slow, None))
        third = any_bundle(chance, 6)
        if never_later(third, one, None) and never_later(third, other, None):
            self.assertTrue(never_later(third, quick, None))
        if never_later(one, third, None) and never_later(other, third, None):
            self.assertTrue(never_later(slow, third, None))
        # Rows of both side by side have the sum.
        self.assertTrue(never_later(one + other, quick, None))

    def test_by_hand(self):
        one, other = [[(1, 2)], [(5, 1)]], [[(2, 3)], [(5, 3)]]
        self.assertEqual(as_quick_as_both(one, other), [(1, 2), (2, 1), (5, 3)])
        self.assertEqual(as_slow_as_both(one, other), [(2, 2), (5, 1)])
        self.assertEqual(as_slow_as_both(other=B, one=D), [(1, 2)])
        self.assertEqual(as_quick_as_both(other=B, one=D), [(1, 2), (3, 2)])
        self.assertEqual(as_quick_as_both(B, B), lanes_of(B))
        self.assertEqual(as_slow_as_both([[(9, 1)]], [[(1, 5)]]), [(9, 1)])


class ErrorsTest(unittest.TestCase):
    def test_in_order(self):
        rows = (BadBundle, "index", BAD_BUNDLES)
        for call in (never_later, alike_bundles, later_steady):
            check_doors(self, call, (D, B, (1, 1)), [(0, *rows), (1, *rows), (2, BadMost, "most", BAD_MOSTS)])
            for row in BAD_ROWS:
                check_error(self, BadBundle, "index", 1, call, D + [row], None, 0)
                check_error(self, BadBundle, "index", 2, call, D, B + [row], 0)
        check_doors(self, later_until, (D, B, C), [(0, *rows), (1, *rows), (2, BadComers, "index", BAD_COMERS)])
        for call in (as_quick_as_both, as_slow_as_both):
            check_doors(self, call, (D, B), [(0, *rows), (1, *rows)])

    def test_by_names(self):
        self.assertIs(never_later(most=None, other=B, one=D), False)
        self.assertIs(alike_bundles(most=[4, 2], other=B, one=D), True)
        self.assertEqual(later_steady(most=(6, 2), other=B, one=D), (3, 1))
        self.assertEqual(later_until(comers=C, other=B, one=D), (1, 1))
        as_quick_as_both(D, B).clear()
        as_slow_as_both(D, B).clear()
        self.assertEqual(as_slow_as_both(D, B), [(1, 2)])


if __name__ == "__main__":
    unittest.main()
