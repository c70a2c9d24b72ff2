"""12.7: what shares bring, the most that any bring, and shares that bring it; and what 12.8 shows of them."""

import unittest
from fractions import Fraction

from quickbythen.bestshares import best_shares, brought, most_out
from quickbythen.bundles import lanes_of
from quickbythen.bundlethrough import bundle_out, shares_of
from quickbythen.curves import first_above, worth_at
from quickbythen.errors import BadComers
from quickbythen.madecurves import added, curve_of
from quickbythen.oneroad import came_out
from quickbythen.refusals import BadBundle, BadShares
from quickbythen.rows import together
from tests.helpers import (ODD, Chance, check_doors, check_error, check_told_comers, check_told_curve, comers, curve, frac,
                           heap, moments_in, pair, swapped, unlowered, with_like_neighbours, worth)
from tests.test_bundles import BAD_BUNDLES, BAD_ROWS, B, any_bundle
from tests.test_bundlethrough import C
from tests.test_phases import BAD_COMERS

BAD_SHARES = [thing for thing in ODD if thing != [0, 0]] + [
    [C], [C, C, C], [], [C, []], [None, C], [C, [((1, 1), (1, 1))]], [C, [((0, 1), (-1, 1))]], (C, [((0, 1), (True, 1))]),
    {0: C, 1: C}, [C, C + C]]


def most_by_words(lanes, steps, moment):
    """The least of both things together, over all moments at which one of both may bend, and over some others."""
    looked = [frac(begin) for begin, _ in steps] + [moment - length for length, _ in lanes] + [Fraction(0), moment]
    looked += [moment * part / 9 for part in range(9)]
    return min([heap(steps, one) + sum([room * max(0, moment - one - length) for length, room in lanes])
                for one in looked if 0 <= one <= moment])


def some_shares(chance, lanes, steps):
    """Any shares of comers: each rate is dealt out by chance, anew at some moments more."""
    moments = sorted({frac(begin) for begin, _ in steps} | {chance.fraction(0, 12) for _ in range(3)})
    found = [[] for _ in lanes]
    for moment in moments:
        rate = [frac(rate) for begin, rate in steps if frac(begin) <= moment][-1]
        parts = [chance.number(0, 3) for _ in lanes]
        parts[chance.number(0, len(lanes) - 1)] += 1
        for share, part in zip(found, parts):
            share.append((pair(moment), pair(rate * part / sum(parts))))
    return found


class MostTest(unittest.TestCase):
    def check_most(self, bundle, steps):
        told = most_out(bundle, steps)
        check_told_curve(self, told)
        self.assertEqual(most_out(swapped(bundle[::-1]), swapped(with_like_neighbours(unlowered(steps)))), told)
        lanes = lanes_of(bundle)
        for moment in moments_in(told, curve([(frac(begin), 0) for begin, _ in steps], 0)):
            self.assertEqual(worth(told, moment), most_by_words(lanes, steps, moment))
        return lanes, told

    def check_best(self, bundle, steps, lanes, told):
        shares = best_shares(bundle, steps)
        self.assertEqual(best_shares(swapped(bundle[::-1]), with_like_neighbours(unlowered(steps))), shares)
        self.assertTrue(type(shares) is list and len(shares) == len(lanes))
        for share in shares:
            check_told_comers(self, share)
        self.assertEqual(curve_of(together(shares)), curve_of(steps))
        self.assertEqual(brought(bundle, shares), told)

    def check_no_more(self, chance, bundle, steps, lanes, told):
        for shares in [some_shares(chance, lanes, steps) for _ in range(3)] + [shares_of(bundle, steps)]:
            self.assertEqual(curve_of(together(shares)), curve_of(steps))
            out = brought(bundle, shares)
            check_told_curve(self, out)
            self.assertEqual(out, added([came_out(lane, share) for lane, share in zip(lanes, shares)]))
            self.assertEqual(brought(swapped(bundle), swapped(unlowered(shares))), out)
            self.assertIsNone(first_above(out, told))

    def check_all(self, chance, bundle, steps):
        lanes, told = self.check_most(bundle, steps)
        self.check_best(bundle, steps, lanes, told)
        self.check_no_more(chance, bundle, steps, lanes, told)

    def test_samples(self):
        chance = Chance(201)
        for _ in range(60):
            self.check_all(chance, any_bundle(chance), chance.comers(4, 15))

    def test_bursts(self):
        """Comers who stop and come again, so that longer lanes are worth it only at times."""
        chance = Chance(202)
        for _ in range(30):
            bundle = [[(1, chance.number(1, 4))], [(chance.number(2, 9), chance.number(1, 6))], [(9, 3)]]
            steps = comers(*[(Fraction(at, 2), chance.number(0, 1) * chance.number(1, 30)) for at in range(0, 14, 2)])
            self.check_all(chance, bundle, steps)

    def test_by_hand(self):
        chance = Chance(203)
        for steps in (comers((0, 0)), comers((0, 4)), comers((0, 2)), comers((0, 5)), comers((0, 0), (3, 9)),
                      comers((0, 6), (Fraction(1, 3), 0)), comers((0, 90), (1, 0), (2, 90), (3, 0))):
            for bundle in (B, [[(3, 1)]], [[(1, 2)], [(40, 20)]]):
                self.check_all(chance, bundle, steps)
        # Two drops are through the short lane ahead of whoever goes the long one.
        self.assertEqual(best_shares(B, comers((0, 6), (Fraction(1, 3), 0)))[1], comers((0, 0)))
        self.assertEqual(brought(B, [comers((0, 2), (3, 0)), comers((0, 9), (2, 0))]),
                         curve([(0, 0), (1, 0), (3, 4), (4, 8), (12, 24)], 0))

    def test_as_many_as_lanes(self):
        same = [[(1, 2)], [(1, 3)]]
        self.assertEqual(brought(same, [C]), brought([[(1, 5)]], [C]))
        shares = [C, C]
        check_error(self, BadShares, "thing", shares, brought, same, shares)

    def test_within_limits(self):
        chance = Chance(204)
        for _ in range(3):
            bundle = [[(chance.number(1, 13), chance.number(1, 20)) for _ in range(3)] for _ in range(6)]
            steps = comers(*[(Fraction(k * k * 9, 6), Fraction(chance.number(0, 15000), 60)) for k in range(12)])
            self.check_all(chance, bundle, steps)

    def test_example(self):
        self.assertEqual(most_out(B, C), ([((0, 1), (0, 1)), ((1, 1), (0, 1)), ((3, 1), (4, 1)), ((5, 1), (12, 1))], (0, 1)))
        self.assertEqual(brought(B, best_shares(B, C)), most_out(B, C))
        # By those by which nobody gains long lanes are gone too late: fewer are out, but no more at any time.
        self.assertEqual(brought(B, shares_of(B, C)), bundle_out(B, C))
        self.assertEqual(worth_at(bundle_out(B, C), (5, 1)), (10, 1))
        self.assertEqual(first_above(most_out(B, C), bundle_out(B, C)), (3, 1))
        self.assertIsNone(first_above(bundle_out(B, C), most_out(B, C)))


class ErrorsTest(unittest.TestCase):
    def test_in_order(self):
        rows = (0, BadBundle, "index", BAD_BUNDLES)
        check_doors(self, brought, (B, [C, C]), [rows, (1, BadShares, "thing", BAD_SHARES)])
        for call in (most_out, best_shares):
            check_doors(self, call, (B, C), [rows, (1, BadComers, "index", BAD_COMERS)])
            check_error(self, BadComers, "index", 2, call, B, C + C)
        for call in (brought, most_out, best_shares):
            for row in BAD_ROWS:
                check_error(self, BadBundle, "index", 2, call, B + [row], None)

    def test_by_names_and_new(self):
        self.assertEqual(brought(shares=[C, C], bundle=B), brought(B, [C, C]))
        self.assertEqual(most_out(comers=C, bundle=B), most_out(B, C))
        self.assertEqual(best_shares(comers=C, bundle=B), best_shares(B, C))
        shares = [list(C), list(C)]
        brought(B, shares)[0].clear()
        most_out(B, C)[0].clear()
        best_shares(B, C)[0].clear()
        self.assertEqual(shares, [C, C])
        told = best_shares([[(1, 1)], [(2, 1)], [(3, 1)]], comers((0, 0)))
        told[0].clear()
        self.assertEqual(told[1:], [comers((0, 0))] * 2)


if __name__ == "__main__":
    unittest.main()
