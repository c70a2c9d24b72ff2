"""16.6: days that repeat themselves, across sections 9 and 12; and what 16.7 shows of them."""

import unittest
from fractions import Fraction

from quickbythen.bundles import lanes_of, net_of
from quickbythen.bundlethrough import time_through
from quickbythen.curves import worth_at
from quickbythen.days import day_labels
from quickbythen.refusals import BadBundle, BadSchedule, BadTaken
from quickbythen.repeating import day_through, repeating
from quickbythen.schedules import beats_of, heap_of
from tests.helpers import NO_FRACTIONS, Chance, check_doors, check_error, comers, frac, is_lowest, pair, swapped, unlowered
from tests.test_bundles import BAD_BUNDLES, BAD_ROWS, B, any_bundle
from tests.test_days import FEW_BAD, any_day
from tests.test_schedules import RATE, out_by_words, parts_of

SIX = ("behind", [("rate", (6, 1), (2, 1)), ("rate", (0, 1), (2, 1))])
BAD_TAKENS = NO_FRACTIONS + [(0, 1), (1, 2), (-3, 1), (999, 1000)]


def day_by_words(bundle, day, taken):
    """How long it takes at the end of a day, gone on by the words of 12.2 from how long it takes at its begin."""
    lanes = lanes_of(bundle)
    for rate, beats in parts_of(day):
        while beats > 0:
            short = sum([room for length, room in lanes if length < taken])
            met = sum([room for length, room in lanes if length <= taken])
            growth = rate / met - 1 if rate > met else rate / short - 1 if rate < short else Fraction(0)
            ahead = [length for length, _ in lanes if (length > taken if growth > 0 else length < taken)]
            gone = beats
            if growth != 0 and ahead:
                gone = min(gone, ((min(ahead) if growth > 0 else max(ahead)) - taken) / growth)
            taken += growth * gone
            beats -= gone
    return taken


class DayThroughTest(unittest.TestCase):
    def test_by_words(self):
        chance = Chance(331)
        for _ in range(100):
            bundle, day = any_bundle(chance), any_day(chance)
            first = lanes_of(bundle)[0][0]
            for taken in {Fraction(first), first + chance.fraction(0, 6), first + chance.fraction(0, 40),
                          Fraction(lanes_of(bundle)[-1][0]), first + Fraction(chance.number(0, 10 ** 6), 10 ** 5)}:
                told = day_through(bundle, day, pair(taken))
                self.assertEqual(told, pair(day_by_words(bundle, day, taken)))
                self.assertTrue(is_lowest(told))
                self.assertEqual(day_through(swapped(bundle), swapped(unlowered(day)), list(unlowered(pair(taken)))), told)

    def test_from_the_shortest_lane(self):
        """Across 12.2: begun with an empty bundle it is through."""
        chance = Chance(332)
        for _ in range(40):
            bundle, day = any_bundle(chance), any_day(chance)
            through = time_through(bundle, out_by_words(day))
            self.assertEqual(day_through(bundle, day, (lanes_of(bundle)[0][0], 1)), worth_at(through, beats_of(day)))

    def test_example(self):
        self.assertEqual(day_through(B, SIX, (1, 1)), (3, 2))
        self.assertEqual(day_through(B, SIX, (3, 2)), (13, 8))


class RepeatingTest(unittest.TestCase):
    def check_repeating(self, bundle, day):
        told = repeating(bundle, day)
        self.assertEqual(repeating(swapped(bundle[::-1]), swapped(unlowered(day))), told)
        whole = sum([room for _, room in lanes_of(bundle)])
        more = frac(heap_of(day)) - frac(beats_of(day)) * whole
        first = Fraction(lanes_of(bundle)[0][0])
        self.assertIs(told is None, more > 0)
        looked = sorted({first + Fraction(part, 3) for part in range(0, 60, 4)} | {first + 500})
        if told is None:
            for taken in looked:
                self.assertGreater(day_by_words(bundle, day, taken), taken)
            return None
        least, greatest = told
        self.assertTrue(type(told) is tuple and is_lowest(least) and (greatest is None or is_lowest(greatest)))
        self.assertIs(greatest is None, more == 0)
        low, high = frac(least), None if greatest is None else frac(greatest)
        self.assertLessEqual(first, low)
        looked += [low, low + Fraction(1, 10 ** 6), max(first, low - Fraction(1, 10 ** 6))]
        looked += [] if high is None else [high, high + Fraction(1, 10 ** 6), (low + high) / 2, max(first, high - Fraction(1, 99))]
        ends = {}
        for taken in sorted(looked):
            ends[taken] = day_by_words(bundle, day, taken)
            if taken < low:
                self.assertTrue(taken < ends[taken] <= low)
            elif high is None or taken <= high:
                self.assertEqual(ends[taken], taken)
            else:
                self.assertTrue(high <= ends[taken] < taken)
        for one, other in zip(sorted(ends), sorted(ends)[1:]):
            self.assertTrue(0 <= ends[other] - ends[one] <= other - one)
        self.check_day_by_day(bundle, day, least)
        return least, greatest

    def check_day_by_day(self, bundle, day, least):
        """Begun with an empty bundle: never less, never more than least; and across section 9 labels go just so."""
        taken = pair(lanes_of(bundle)[0][0])
        for number in range(4):
            labels = day_labels(net_of(bundle), day, number, 200)
            if labels is not None:
                self.assertEqual(labels[1], taken)
            later = day_through(bundle, day, taken)
            self.assertTrue(frac(taken) <= frac(later) <= frac(least))
            taken = later

    def test_samples(self):
        chance = Chance(333)
        found = {}
        for _ in range(120):
            told = self.check_repeating(any_bundle(chance), any_day(chance))
            found["none" if told is None else "one" if told[0] == told[1] else "more"] = True
        self.assertEqual(set(found), {"none", "one", "more"})

    def test_just_all_rooms(self):
        chance = Chance(334)
        for _ in range(40):
            bundle, day = any_bundle(chance), any_day(chance)
            whole = sum([room for _, room in lanes_of(bundle)])
            left = frac(heap_of(day)) - frac(beats_of(day)) * whole
            # What is put behind makes the day's heap just what all rooms let in, a little more, a little less.
            for more, is_told in ((0, True), (Fraction(1, 60), False), (Fraction(-1, 60), True)):
                beats = abs(left) + 1
                rate = whole - (left - more) / beats
                if rate >= 0:
                    told = self.check_repeating(bundle, ("behind", [day, ("rate", pair(rate), pair(beats))]))
                    self.assertIs(told is not None, is_told)
                    if more == 0:
                        self.assertIsNone(told[1])

    def test_by_hand(self):
        self.assertEqual(self.check_repeating(B, ("rate", (0, 1), (3, 1))), ((1, 1), (1, 1)))
        self.assertEqual(self.check_repeating(B, ("rate", (2, 1), (3, 1))), ((1, 1), (3, 1)))
        self.assertEqual(self.check_repeating(B, ("rate", (3, 1), (3, 1))), ((3, 1), (3, 1)))
        self.assertEqual(self.check_repeating(B, ("rate", (4, 1), (1, 7))), ((3, 1), None))
        self.assertIsNone(self.check_repeating(B, ("rate", (401, 100), (1, 7))))
        self.assertEqual(self.check_repeating([[(5, 3)]], ("rate", (3, 1), (1, 1))), ((5, 1), None))
        up = ("behind", [("rate", (3, 1), (2, 1)), ("rate", (0, 1), (1, 1))])
        self.assertEqual(self.check_repeating([[(1, 2)]], up), ((1, 1), None))

    def test_never_there(self):
        """From the shortest length on it comes nearer and nearer, but each day something is left."""
        taken = (1, 1)
        for _ in range(30):
            later = day_through(B, SIX, taken)
            self.assertTrue(frac(taken) < frac(later) < Fraction(5, 3))
            taken = later
        self.assertLess(Fraction(5, 3) - frac(taken), Fraction(1, 10 ** 9))

    def test_within_limits(self):
        chance = Chance(335)
        for _ in range(10):
            bundle = [[(chance.number(1, 40), chance.number(1, 20))] for _ in range(6)]
            day = ("behind", [("rate", pair(chance.fraction(0, 40) * 4), pair(chance.fraction(0, 59) + Fraction(1, 6)))
                              for _ in range(6)])
            self.check_repeating(bundle, day)

    def test_example(self):
        self.assertEqual(repeating(B, SIX), ((5, 3), (5, 3)))
        for rate, told in ((8, ((3, 1), None)), (9, None)):
            self.assertEqual(repeating(B, ("behind", [("rate", (rate, 1), (2, 1)), ("rate", (0, 1), (2, 1))])), told)


class ErrorsTest(unittest.TestCase):
    def test_in_order(self):
        rows, day = (0, BadBundle, "index", BAD_BUNDLES), (1, BadSchedule, "thing", FEW_BAD)
        check_doors(self, repeating, (B, RATE), [rows, day])
        check_doors(self, day_through, (B, RATE, (1, 1)), [rows, day, (2, BadTaken, "taken", BAD_TAKENS)])
        for row in BAD_ROWS:
            check_error(self, BadBundle, "index", 2, repeating, B + [row], None)
        for taken in ((2, 1), (5, 3), (7, 3)):
            check_error(self, BadTaken, "taken", taken, day_through, [[(3, 1)]], RATE, taken)
        # Just the shortest lane's length is no error.
        self.assertEqual(day_through([[(3, 1)]], ("rate", (0, 1), (1, 1)), (6, 2)), (3, 1))

    def test_by_names(self):
        self.assertEqual(repeating(day=SIX, bundle=B), ((5, 3), (5, 3)))
        self.assertEqual(day_through(taken=(1, 1), day=SIX, bundle=B), (3, 2))
        self.assertEqual(out_by_words(SIX), comers((0, 6), (2, 0), (4, 0)))


if __name__ == "__main__":
    unittest.main()
