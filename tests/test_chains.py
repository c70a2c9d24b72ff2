"""12.6: bundles one behind another; across sections 7 and 9."""

import unittest
from fractions import Fraction

from quickbythen.bundlethrough import time_through
from quickbythen.chains import chain_net, chain_through
from quickbythen.changes import is_chain
from quickbythen.curves import first_above
from quickbythen.errors import BadComers
from quickbythen.gains import first_gain
from quickbythen.laterbundles import as_quick_as_both
from quickbythen.madecurves import added, difference
from quickbythen.nets import Net
from quickbythen.phases import label_at, label_curve, rests
from quickbythen.refusals import BadChain
from quickbythen.shown import plan_until
from quickbythen.through import label_through
from tests.helpers import (Chance, check_doors, check_error, check_told_curve, comers, curve, frac, moments_in, pair,
                           swapped, unlowered, with_like_neighbours, worth)
from tests.test_bundles import BAD_BUNDLES, B, any_bundle
from tests.test_bundlethrough import ALONE, C
from tests.test_laterbundles import D
from tests.test_phases import BAD_COMERS

BAD_CHAINS = [None, 5, "", "ab", [], (), {}, {0: B}, True, len] + [[thing] for thing in BAD_BUNDLES]


def any_chain(chance, bundles=3):
    return [any_bundle(chance, 3) for _ in range(chance.number(1, bundles))]


class ChainsTest(unittest.TestCase):
    def check_chain(self, chain, steps, many):
        told = chain_through(chain, steps)
        check_told_curve(self, told)
        self.assertEqual(chain_through(swapped(chain), swapped(with_like_neighbours(unlowered(steps)))), told)
        net = chain_net(chain)
        self.assertTrue(is_chain(net))
        self.assertEqual(chain_net(swapped(chain)), net)
        # Across section 9: the label of the end is the moment and through.
        if rests(net, steps, many) is not None:
            self.assertEqual(difference(label_curve(net, steps, len(chain), many), ALONE), told)
        for moment in moments_in(told):
            label = label_at(net, steps, len(chain), pair(moment), many)
            self.assertTrue(label is None or frac(label) == moment + worth(told, moment))
        return net, told

    def test_samples(self):
        chance = Chance(161)
        for _ in range(50):
            self.check_chain(any_chain(chance), chance.comers(4, 15), 99)

    def test_lines_of_a_plan(self):
        """Across section 7: labels through the lines of the plan by which nobody gains."""
        chance = Chance(162)
        for _ in range(12):
            chain, steps = any_chain(chance), chance.comers(3, 12)
            net, told = self.check_chain(chain, steps, 60)
            plan, until = plan_until(net, steps, 60)
            if until is None:
                self.assertIsNone(first_gain(net, plan, (60, 1)))
                label = label_through(net, plan, len(chain), (60, 1))
                for moment in moments_in(told, label):
                    self.assertEqual(worth(label, moment), min(60, moment + worth(told, moment)))

    def test_one_bundle(self):
        chance = Chance(163)
        for _ in range(20):
            bundle, steps = any_bundle(chance), chance.comers(4, 15)
            self.assertEqual(chain_through([bundle], steps), time_through(bundle, steps))

    def test_by_hand(self):
        # Six a beat come to a road of room two, then to one of room one: what is out of the former keeps the line.
        chain = [[[(1, 2)]], [[(2, 1)]]]
        self.assertEqual(chain_through(chain, C), chain_through(chain[::-1], C))
        self.assertEqual(chain_through(chain, C), curve([(0, 3), (2, 13), (12, 3)], 0))
        self.assertEqual(chain_through([B, D], C), curve([(0, 2), (2, 6), (6, 2)], 0))
        self.assertEqual(chain_through([D, B], comers((0, 0))), curve([(0, 2)], 0))

    def test_nobody_takes_longer(self):
        """If a bundle is exchanged for one that is never later."""
        chance = Chance(164)
        for _ in range(30):
            chain, steps = any_chain(chance), chance.comers(4, 15)
            at = chance.number(0, len(chain) - 1)
            quick = [[lane] for lane in as_quick_as_both(chain[at], any_bundle(chance))]
            better = chain[:at] + [quick] + chain[at + 1:]
            self.assertIsNone(first_above(chain_through(better, steps), chain_through(chain, steps)))

    def test_chain_net(self):
        self.assertEqual(chain_net([B, D]), Net(3, [(0, 1, 1, 2), (0, 1, 3, 2), (1, 2, 1, 2)], 0, 2))
        self.assertEqual(chain_net(chain=[[[(1, 1)], [(1, 4)]]]), Net(2, [(0, 1, 1, 5)], 0, 1))
        self.assertEqual((chain_net([B, D]).start(), chain_net([B, D]).end()), (0, 2))

    def test_within_limits(self):
        chance = Chance(165)
        for _ in range(3):
            chain = [[[(chance.number(1, 10), chance.number(1, 20)) for _ in range(4)] for _ in range(4)] for _ in range(3)]
            steps = comers(*[(Fraction(k * k * 9, 6), Fraction(chance.number(0, 15000), 60)) for k in range(12)])
            self.check_chain(chain, steps, 99)


class ErrorsTest(unittest.TestCase):
    def test_in_order(self):
        check_doors(self, chain_through, ([B, D], C), [(0, BadChain, "index", BAD_CHAINS), (1, BadComers, "index", BAD_COMERS)])
        check_doors(self, chain_net, ([B, D],), [(0, BadChain, "index", BAD_CHAINS)])
        for thing in BAD_BUNDLES:
            check_error(self, BadChain, "index", 1, chain_through, [B, thing, None], None)
            check_error(self, BadChain, "index", 1, chain_net, [B, thing])
        check_error(self, BadComers, "index", 2, chain_through, [B], C + C)

    def test_by_names_and_new(self):
        self.assertEqual(chain_through(comers=C, chain=[B]), time_through(B, C))
        chain = [[[[1, 2]]], [[[2, 1]]]]
        told = chain_through(chain, C)
        self.assertEqual(chain, [[[[1, 2]]], [[[2, 1]]]])
        told[0].clear()
        self.assertEqual(len(chain_through(chain, C)[0]), 3)
        self.assertEqual(added([chain_through(chain, C), ALONE])[1], (1, 1))


if __name__ == "__main__":
    unittest.main()
