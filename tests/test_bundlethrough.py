"""12.2 and 12.3: through, shares and out; across sections 7 and 9; and what 12.8 shows of them."""

import unittest
from fractions import Fraction

from quickbythen.bundles import lanes_of, net_of
from quickbythen.bundlethrough import bundle_out, shares_of, time_through
from quickbythen.errors import BadComers
from quickbythen.gains import first_gain
from quickbythen.madecurves import added, behind, curve_of, difference
from quickbythen.phases import label_at, label_curve, rests
from quickbythen.plans import played
from quickbythen.refusals import BadBundle
from quickbythen.rows import together
from tests.helpers import (Chance, check_doors, check_error, check_told_comers, check_told_curve, comers, curve, frac, heap,
                           moments_in, pair, slope_behind, swapped, unlowered, with_like_neighbours, worth)
from tests.test_bundles import BAD_BUNDLES, BAD_ROWS, B, any_bundle
from tests.test_gains import rate_from
from tests.test_phases import BAD_COMERS

C = comers((0, 6), (2, 0))
ALONE = ([((0, 1), (0, 1))], (1, 1))


class ThroughTest(unittest.TestCase):
    def check_through(self, bundle, steps):
        """By the words of 12.2, from each moment on."""
        told = time_through(bundle, steps)
        check_told_curve(self, told)
        self.assertEqual(time_through(swapped(bundle), swapped(with_like_neighbours(unlowered(steps)))), told)
        self.assertEqual(time_through(bundle[::-1], steps), told)
        lanes = lanes_of(bundle)
        self.assertEqual(worth(told, 0), lanes[0][0])
        for moment in moments_in(told, ([(moment, (0, 1)) for moment, _ in steps], (0, 1))):
            takes = worth(told, moment)
            short = sum([room for length, room in lanes if length < takes])
            met = sum([room for length, room in lanes if length <= takes])
            rate = rate_from(steps, moment)
            wanted = rate / met - 1 if rate > met else rate / short - 1 if rate < short else 0
            self.assertEqual(slope_behind(told, moment), wanted)
        return told

    def check_shares(self, bundle, steps, told):
        shares = shares_of(bundle, steps)
        lanes = lanes_of(bundle)
        self.assertEqual(shares_of(swapped(bundle), with_like_neighbours(unlowered(steps))), shares)
        self.assertTrue(type(shares) is list and len(shares) == len(lanes))
        for share in shares:
            check_told_comers(self, share)
        self.assertEqual(curve_of(together(shares)), curve_of(steps))
        for moment in moments_in(told, ([(moment, (0, 1)) for moment, _ in steps], (0, 1))):
            self.check_rates(lanes, shares, moment, rate_from(steps, moment), worth(told, moment), slope_behind(told, moment))
        self.check_nobody_gains(bundle, steps, shares, told)

    def check_rates(self, lanes, shares, moment, rate, takes, growth):
        left = rate
        for (length, room), share in zip(lanes, shares):
            much = rate_from(share, moment)
            # Right behind the moment a lane is shorter if it is now, or as long while through grows.
            is_shorter = length < takes or (length == takes and growth > 0)
            if is_shorter:
                self.assertEqual(much, room * (1 + growth))
            elif growth == 0 and length == takes:
                self.assertEqual(much, left)
            else:
                self.assertEqual(much, 0)
            left -= much
        self.assertEqual(left, 0)

    def check_nobody_gains(self, bundle, steps, shares, told):
        """Across section 7: played out in net_of, each lane takes just as long as through, or nobody goes it."""
        net = net_of(bundle)
        plan = [([number], share) for number, share in enumerate(shares)]
        until = pair(frac(steps[-1][0]) + 40)
        self.assertIsNone(first_gain(net, plan, until))
        # And as many are out: all lanes together.
        ends = added([group[-1] for group in played(net, plan, until)])
        out = bundle_out(bundle, steps)
        check_told_curve(self, out)
        self.assertEqual(bundle_out(swapped(bundle), unlowered(steps)), out)
        for moment in moments_in(out, ends):
            if moment <= frac(until):
                self.assertEqual(worth(out, moment), worth(ends, moment))
        # As many are out ahead of whoever comes as came ahead of it.
        when = added([told, ALONE])
        self.assertEqual(behind(out, when), curve_of(steps))

    def check_labels(self, bundle, steps, told):
        """Across section 9: the label of 1 is the moment and through."""
        net = net_of(bundle)
        if rests(net, steps, 99) is not None:
            self.assertEqual(difference(label_curve(net, steps, 1, 99), ALONE), told)
        for moment in moments_in(told):
            label = label_at(net, steps, 1, pair(moment), 99)
            self.assertTrue(label is None or frac(label) == moment + worth(told, moment))

    def test_samples(self):
        chance = Chance(141)
        for _ in range(60):
            bundle, steps = any_bundle(chance), chance.comers(4, 15)
            told = self.check_through(bundle, steps)
            self.check_shares(bundle, steps, told)
            self.check_labels(bundle, steps, told)

    def test_by_hand(self):
        # Rates just as rooms, a little more, and nobody.
        for steps in (comers((0, 2)), comers((0, 4)), comers((0, Fraction(201, 100))), comers((0, Fraction(401, 100))),
                      comers((0, 0)), comers((0, 6), (1, 2), (3, 4)), comers((0, 6), (1, Fraction(3, 2)), (9, 2)),
                      comers((0, 8), (2, 3), (4, 2), (5, 0), (Fraction(11, 2), 9), (7, 4))):
            for bundle in (B, [[(3, 1)]], [[(1, 2)], [(3, 2)], [(4, 1)], [(4, 1)]]):
                told = self.check_through(bundle, steps)
                self.check_shares(bundle, steps, told)
                self.check_labels(bundle, steps, told)
        self.assertEqual(time_through(B, comers((0, 6), (1, 2))), curve([(0, 1), (1, 3)], 0))
        self.assertEqual(time_through(B, comers((0, 6), (1, 4))), curve([(0, 1), (1, 3)], 0))
        self.assertEqual(time_through(B, comers((0, 5))), curve([(0, 1), (Fraction(4, 3), 3)], Fraction(1, 4)))
        self.assertEqual(shares_of(B, comers((0, 6), (1, 3))), [comers((0, 6), (1, 2)), comers((0, 0), (1, 1))])
        self.assertEqual(shares_of(B, comers((0, 0))), [comers((0, 0))] * 2)
        self.assertEqual(bundle_out(B, comers((0, 0))), curve([(0, 0)], 0))

    def test_within_limits(self):
        chance = Chance(142)
        for _ in range(5):
            bundle = [[(chance.number(1, 13), chance.number(1, 20)) for _ in range(3)] for _ in range(6)]
            steps = comers(*[(Fraction(k * k * 9, 6), Fraction(chance.number(0, 15000), 60)) for k in range(12)])
            told = self.check_through(bundle, steps)
            self.check_shares(bundle, steps, told)

    def test_example(self):
        self.assertEqual(lanes_of(B), [(1, 2), (3, 2)])
        self.assertEqual(time_through(B, C), ([((0, 1), (1, 1)), ((1, 1), (3, 1)), ((2, 1), (7, 2)), ((9, 2), (1, 1))], (0, 1)))
        self.assertEqual(shares_of(B, C), [[((0, 1), (6, 1)), ((1, 1), (3, 1)), ((2, 1), (0, 1))],
                                           [((0, 1), (0, 1)), ((1, 1), (3, 1)), ((2, 1), (0, 1))]])
        self.assertEqual(bundle_out(B, C), ([((0, 1), (0, 1)), ((1, 1), (0, 1)), ((4, 1), (6, 1)), ((11, 2), (12, 1))], (0, 1)))

    def test_other_shares_gain(self):
        net = net_of(B)
        for first, second in ((comers((0, 6), (2, 0)), comers((0, 0))), (comers((0, 5), (2, 0)), comers((0, 1), (2, 0))),
                              (comers((0, 6), (1, 4), (2, 0)), comers((0, 0), (1, 2), (2, 0)))):
            self.assertIsNotNone(first_gain(net, [([0], first), ([1], second)], (40, 1)))

    def test_as_many_out(self):
        chance = Chance(143)
        for _ in range(20):
            bundle, steps = any_bundle(chance), chance.comers(4, 15)
            told, out = time_through(bundle, steps), bundle_out(bundle, steps)
            for moment in moments_in(told):
                self.assertEqual(worth(out, moment + worth(told, moment)), heap(steps, moment))


class ErrorsTest(unittest.TestCase):
    def test_in_order(self):
        for call in (time_through, shares_of, bundle_out):
            check_doors(self, call, (B, C), [(0, BadBundle, "index", BAD_BUNDLES), (1, BadComers, "index", BAD_COMERS)])
            for row in BAD_ROWS:
                check_error(self, BadBundle, "index", 2, call, B + [row], None)
            check_error(self, BadComers, "index", 2, call, B, C + C)

    def test_by_names_and_new(self):
        self.assertEqual(time_through(comers=C, bundle=B), time_through(B, C))
        self.assertEqual(shares_of(comers=C, bundle=B), shares_of(B, C))
        self.assertEqual(bundle_out(comers=C, bundle=B), bundle_out(B, C))
        time_through(B, C)[0].clear()
        bundle_out(B, C)[0].clear()
        told = shares_of([[(1, 1)], [(2, 1)], [(3, 1)]], comers((0, 0)))
        told[0].clear()
        self.assertEqual(told[1:], [comers((0, 0))] * 2)
        self.assertEqual(len(time_through(B, C)[0]), 4)


if __name__ == "__main__":
    unittest.main()
