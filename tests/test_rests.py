"""13.1, 13.2 and 13.6: rests, lanes that are learned from them, and which rates tell bundles apart; and 13.7."""

import unittest
from fractions import Fraction
from itertools import combinations

from quickbythen.bundles import lanes_of, room_by
from quickbythen.bundlethrough import time_through
from quickbythen.errors import BadRate, NoWay, QuickError
from quickbythen.refusals import BadAnswer, BadBox, BadBundle, BadBundles, BadMost, Unfit
from quickbythen.rests import fewest_rates, learned_lanes, rest_of
from quickbythen.workshops import Workshop
from tests.helpers import N, NO_INTEGERS, NO_MOMENTS, ODD, Chance, check_doors, check_error, pair, swapped, unlowered
from tests.test_bundles import BAD_BUNDLES, BAD_ROWS, B, any_bundle

NO_BOXES = [thing for thing in ODD if not callable(thing)] + [NoWay(), Workshop()]
BAD_MOSTS = NO_INTEGERS + [0, -1, -10 ** 9]


class Box:
    """A box that goes by a bundle, or by another function, and keeps what it is asked."""

    def __init__(self, answer):
        self.answer = answer
        self.asked = []

    def box(self):
        def asked(rate):
            self.asked.append(rate)
            return self.answer(rate)
        return asked


def rests_of(bundle):
    return lambda rate: rest_of(bundle, (rate, 1))


class RestTest(unittest.TestCase):
    def test_by_words(self):
        chance = Chance(211)
        for _ in range(60):
            bundle = any_bundle(chance)
            for rate in [Fraction(0), Fraction(1, 7), chance.fraction(0, 9), Fraction(chance.number(0, 20))]:
                fitting = [length for length, _ in lanes_of(bundle) if room_by(bundle, length) >= rate]
                told = rest_of(bundle, pair(rate))
                self.assertEqual(told, min(fitting) if fitting else None)
                self.assertEqual(rest_of(swapped(bundle), list(unlowered(pair(rate)))), told)
                self.check_comes_to(bundle, rate, told)

    def check_comes_to(self, bundle, rate, told):
        through = time_through(bundle, [((0, 1), pair(rate))])
        if told is None:
            self.assertGreater(through[1][0], 0)
        else:
            self.assertEqual((through[0][-1][1], through[1]), ((told, 1), (0, 1)))

    def test_just_rooms_and_a_little_above(self):
        self.assertEqual([rest_of(B, (rate, 1)) for rate in range(6)], [1, 1, 1, 3, 3, None])
        self.assertEqual([rest_of(B, (2 * 10 ** 9 + more, 10 ** 9)) for more in (-1, 0, 1)], [1, 1, 3])
        self.assertEqual([rest_of(B, (4 * 10 ** 9 + more, 10 ** 9)) for more in (-1, 0, 1)], [3, 3, None])
        self.assertIs(type(rest_of(B, (1, 1))), int)

    def test_errors(self):
        check_doors(self, rest_of, (B, (1, 1)), [(0, BadBundle, "index", BAD_BUNDLES), (1, BadRate, "thing", NO_MOMENTS)])
        self.assertEqual(rest_of(rate=(3, 1), bundle=B), 3)
        for row in BAD_ROWS:
            check_error(self, BadBundle, "index", 2, rest_of, B + [row], None)


class LearnedTest(unittest.TestCase):
    def check_learned(self, answer, most):
        """Learned lanes have all answers, and the box was asked as seldom as is promised."""
        box = Box(answer)
        told = learned_lanes(box.box(), most)
        self.assertTrue(type(told) is list and all([type(lane) is tuple for lane in told]))
        self.assertLessEqual(sum([room for _, room in told]), most)
        rows = [[lane] for lane in told]
        self.assertEqual(lanes_of(rows), told)
        self.assertEqual([rest_of(rows, (rate, 1)) for rate in box.asked], [answer(rate) for rate in box.asked])
        self.assertEqual(len(box.asked), len(set(box.asked)))
        self.assertTrue(all([type(rate) is int and 1 <= rate <= most for rate in box.asked]))
        self.assertLessEqual(len(box.asked), (len(told) + 1) * (len(bin(most)) - 2 + 1))
        return told

    def test_boxes_of_bundles(self):
        chance = Chance(212)
        for _ in range(200):
            bundle = any_bundle(chance, 6)
            whole = sum([room for _, room in lanes_of(bundle)])
            for most in (whole, whole + 1, whole + chance.number(0, 60), 10 ** 9):
                self.assertEqual(self.check_learned(rests_of(bundle), most), lanes_of(bundle))

    def test_great_rooms(self):
        chance = Chance(213)
        for _ in range(40):
            lanes = {chance.number(1, 10 ** 6): chance.number(1, 10 ** chance.number(0, 8)) for _ in range(6)}
            bundle = [[(length, lanes[length])] for length in lanes]
            self.assertEqual(self.check_learned(rests_of(bundle), 10 ** 9), lanes_of(bundle))
        for most in (1, 2, 3, 4, 7, 8, 10 ** 9, 2 ** 29 - 1, 2 ** 29):
            self.assertEqual(self.check_learned(lambda rate: 5, most), [(5, most)])
            self.assertEqual(self.check_learned(lambda rate: 5 if rate == 1 else None, most), [(5, 1)])

    def test_many_lanes(self):
        for most in (1, 2, 7, 16, 33):
            self.assertEqual(self.check_learned(lambda rate: rate, most), [(rate, 1) for rate in range(1, most + 1)])

    def test_boxes_without_a_bundle(self):
        """Any answers: the lanes that are told have them all, or some two of them, told by Unfit, have none."""
        chance = Chance(214)
        found = [0, 0]
        for _ in range(400):
            most = chance.number(1, 12)
            answers = [chance.random.choice([None, 9, 2, 1]) for _ in range(most)]
            if chance.number(0, 1):
                answers = sorted(answers, key=lambda one: one or 10)
            box = Box(lambda rate: answers[rate - 1])
            try:
                self.check_learned(box.answer, most)
                found[0] += 1
            except Unfit as error:
                self.check_unfit(box, most, error.rates)
                found[1] += 1
        self.assertGreater(min(found), 50)

    def check_unfit(self, box, most, rates):
        with self.assertRaises(Unfit):
            learned_lanes(box.box(), most)
        self.assertIs(type(rates), list)
        self.assertIn(box.asked[-1], rates)
        self.assertLessEqual(set(rates), set(box.asked))
        answers = [box.answer(rate) for rate in rates]
        if len(rates) == 1:
            self.assertEqual((rates, answers), ([1], [None]))
        else:
            self.assertEqual((len(rates), rates), (2, sorted(rates)))
            self.assertTrue(answers[1] is not None and (answers[0] is None or answers[0] > answers[1]))
        # At once: all answers ahead of the last one are those of some bundle.
        earlier = sorted(box.asked[:-1])
        told = [box.answer(rate) or 10 ** 9 for rate in earlier]
        self.assertEqual(told, sorted(told))
        self.assertTrue(1 not in earlier or told[0] < 10 ** 9)

    def test_unfit_at_once(self):
        for answer, most, rates in ((lambda rate: None, 9, [1]), (lambda rate: 3 if rate == 1 else 1, 2, [1, 2]),
                                    (lambda rate: None, 1, [1])):
            box = Box(answer)
            with self.assertRaises(Unfit) as caught:
                learned_lanes(box.box(), most)
            self.assertEqual(caught.exception.rates, rates)
            self.assertEqual(box.asked, rates)
        box = Box(lambda rate: 3 if rate == 1 else 1)
        with self.assertRaises(Unfit) as caught:
            learned_lanes(box.box(), 9)
        self.assertEqual(caught.exception.rates, [1, box.asked[1]])
        self.assertEqual(len(box.asked), 2)

    def test_bad_answers(self):
        for answer in [0, -1, True, False, "1", [], [1], (1, 1), {}, 1.0, len, N]:
            for late in (0, 1, 3):
                box = Box(lambda rate: answer if len(box.asked) > late else 5)
                with self.assertRaises(BadAnswer) as caught:
                    learned_lanes(box.box(), 10 ** 6)
                self.assertIs(caught.exception.thing, answer)
                self.assertEqual(len(box.asked), late + 1)

    def test_what_the_box_raises(self):
        class Own(Exception):
            pass

        for late in (0, 2):
            box = Box(lambda rate: 5)

            def asked(rate):
                if len(box.asked) == late:
                    raise Own(rate)
                return box.box()(rate)
            with self.assertRaises(Own):
                learned_lanes(asked, 9)

    def test_errors(self):
        check_doors(self, learned_lanes, (rests_of(B), 9), [(0, BadBox, "box", NO_BOXES), (1, BadMost, "most", BAD_MOSTS)])
        self.assertEqual(learned_lanes(most=9, box=rests_of(B)), [(1, 2), (3, 2)])
        self.assertTrue(issubclass(Unfit, QuickError))


class FewestTest(unittest.TestCase):
    def by_words(self, bundles):
        """All ascending lists, the shortest first."""
        kinds = []
        for bundle in bundles:
            if lanes_of(bundle) not in kinds:
                kinds.append(lanes_of(bundle))
        most = max([sum([room for _, room in lanes]) for lanes in kinds] + [0])
        for many in range(len(kinds) + 1):
            for rates in combinations(range(1, most + 1), many):
                rests = [tuple([rest_of([[lane] for lane in lanes], (rate, 1)) for rate in rates]) for lanes in kinds]
                if len(set(rests)) == len(rests):
                    return list(rates), len(kinds), most
        return None

    def small(self, chance):
        return [[(chance.number(1, 4), chance.number(1, 4))] for _ in range(chance.number(1, 3))]

    def test_samples(self):
        chance = Chance(215)
        found = {}
        for _ in range(120):
            bundles = [self.small(chance) for _ in range(chance.number(0, 5))]
            bundles = bundles + bundles[:chance.number(0, 1)]
            told = fewest_rates(bundles)
            wanted, kinds, most = self.by_words(bundles)
            self.assertEqual(told, wanted)
            self.assertTrue(type(told) is list and all([type(rate) is int for rate in told]))
            self.assertTrue(len(told) < kinds or told == [])
            self.assertTrue(all([1 <= rate <= most for rate in told]))
            self.assertEqual(fewest_rates(swapped(bundles)), told)
            self.assertEqual(fewest_rates(bundles[::-1]), told)
            found[len(told)] = True
        self.assertLessEqual({0, 1, 2}, set(found))

    def test_by_hand(self):
        self.assertEqual(fewest_rates([]), [])
        self.assertEqual(fewest_rates([B, [[(3, 2)], [(1, 1)], [(1, 1)]]]), [])
        self.assertEqual(fewest_rates([[[(1, 1)]], [[(1, 5)]]]), [2])
        steps = [[[(1, room)], [(2, 12 - room)]] for room in (2, 4, 6, 8)]
        self.assertEqual(fewest_rates(steps), [3, 5, 7])
        self.assertEqual(fewest_rates(steps + [[[(1, 10)], [(2, 2)]]]), [3, 5, 7, 9])
        self.assertEqual(fewest_rates([[[(1, 10 ** 9)]], [[(1, 10 ** 9 + 1)]]]), [10 ** 9 + 1])

    def test_example(self):
        self.assertEqual(fewest_rates(bundles=[B, [[(1, 2)]], [[(1, 4)]]]), [3])
        self.assertEqual([rest_of(bundle, (3, 1)) for bundle in (B, [[(1, 2)]], [[(1, 4)]])], [3, None, 1])
        self.assertEqual(learned_lanes(rests_of(B), 9), [(1, 2), (3, 2)])

    def test_errors(self):
        for thing in (None, 5, "", "ab", {}, {0: B}, True, len):
            check_error(self, BadBundles, "index", 0, fewest_rates, thing)
        for thing in BAD_BUNDLES:
            check_error(self, BadBundles, "index", 2, fewest_rates, [B, B, thing, None])
        bundles = [[[[1, 2]]], [[[1, 4]]]]
        fewest_rates(bundles).clear()
        self.assertEqual(bundles, [[[[1, 2]]], [[[1, 4]]]])


if __name__ == "__main__":
    unittest.main()
