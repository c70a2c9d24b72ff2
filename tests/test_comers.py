"""3.2 comers, and 2.4 of moments."""

import unittest
from fractions import Fraction

from quickbythen.comers import come_by, rate_at
from quickbythen.errors import BadComers, BadMoment
from tests.helpers import (NO_FRACTIONS, NO_MOMENTS, ODD, Chance, check_error, comers, frac, heap, pair, swapped,
                           unlowered, with_like_neighbours)

C = comers((0, 5), (2, 1), (5, 0))


class ComersTest(unittest.TestCase):
    def test_rate(self):
        for moment, rate in ((0, 5), (1, 5), (Fraction(11, 6), 5), (2, 1), (3, 1), (5, 0), (6, 0), (1000, 0)):
            self.assertEqual(rate_at(C, pair(moment)), (rate, 1))

    def test_heap(self):
        for moment, many in ((0, 0), (1, 5), (Fraction(1, 6), Fraction(5, 6)), (2, 10), (3, 11), (5, 13), (6, 13),
                             (1000, 13)):
            self.assertEqual(come_by(C, pair(moment)), pair(many))
        self.assertEqual(come_by([((0, 1), (3, 2))], (200, 3)), (100, 1))

    def test_by_names(self):
        self.assertEqual(rate_at(comers=C, moment=(1, 1)), (5, 1))
        self.assertEqual(come_by(comers=C, moment=(1, 1)), (5, 1))

    def test_all(self):
        chance = Chance(3)
        for _ in range(200):
            steps = chance.comers()
            for moment in chance.moments(6):
                then = pair(moment)
                rate = [step for step in steps if frac(step[0]) <= moment][-1][1]
                self.assertEqual(rate_at(steps, then), rate)
                self.assertEqual(come_by(steps, then), pair(heap(steps, moment)))
                for same in (swapped(steps), unlowered(steps), with_like_neighbours(steps)):
                    self.assertEqual(rate_at(same, unlowered(then)), rate)
                    self.assertEqual(come_by(same, list(then)), pair(heap(steps, moment)))

    def test_first_moment_not_in_lowest_terms(self):
        self.assertEqual(rate_at([((0, 6), (1, 1))], (0, 3)), (1, 1))

    def test_what_is_passed_stays(self):
        steps = [[[0, 2], [2, 2]], [[2, 2], [4, 4]]]
        rate_at(steps, [1, 1])
        come_by(steps, [1, 1])
        self.assertEqual(steps, [[[0, 2], [2, 2]], [[2, 2], [4, 4]]])

    def test_bad_comers(self):
        for ask in (rate_at, come_by):
            for thing in (None, 5, "", {}, (), [], {0: 1}, True, len, "ab"):
                check_error(self, BadComers, "index", 0, ask, thing, None)
            for step in ODD + [((3, 1), part) for part in NO_MOMENTS] + [(part, (3, 1)) for part in NO_MOMENTS] + [
                    ((3, 1), (1, 1), (1, 1)), {0: (3, 1), 1: (1, 1)}]:
                check_error(self, BadComers, "index", 1, ask, [((0, 1), (1, 1)), step, 5], None)
                check_error(self, BadComers, "index", 0, ask, [step], None)

    def test_moments_out_of_place(self):
        for ask in (rate_at, come_by):
            check_error(self, BadComers, "index", 0, ask, [((1, 2), (1, 1))], (1, 1))
            check_error(self, BadComers, "index", 1, ask, [((0, 1), (1, 1)), ((0, 5), (2, 1))], (1, 1))
            check_error(self, BadComers, "index", 2, ask, comers((0, 1), (2, 2), (2, 3)), (1, 1))
            check_error(self, BadComers, "index", 2, ask,
                        [((0, 1), (1, 1)), ((1, 2), (2, 1)), ((2, 4), (3, 1))], (1, 1))
            check_error(self, BadComers, "index", 2, ask, comers((0, 1), (3, 2), (1, 3), (0, 0)), (1, 1))

    def test_bad_moment(self):
        for ask in (rate_at, come_by):
            for thing in NO_MOMENTS:
                check_error(self, BadMoment, "thing", thing, ask, C, thing)

    def test_true_is_no_integer(self):
        self.assertIn((True, 1), NO_FRACTIONS)
        check_error(self, BadComers, "index", 0, rate_at, [((False, 1), (1, 1))], (0, 1))
        check_error(self, BadComers, "index", 0, rate_at, [((0, True), (1, 1))], (0, 1))


if __name__ == "__main__":
    unittest.main()
