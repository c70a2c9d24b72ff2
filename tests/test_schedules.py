"""16.1: schedules, told from the parts of which they are made; and what 16.7 shows of them."""

import unittest
from fractions import Fraction

from quickbythen.comers import come_by, rate_at
from quickbythen.errors import BadHeap, BadMoment
from quickbythen.refusals import BadSchedule
from quickbythen.schedules import beats_of, come_in, heap_of, is_schedule, moment_when, rate_in, written_out
from tests.helpers import (NO_FRACTIONS, NO_INTEGERS, NO_MOMENTS, ODD, Chance, check_doors, check_error, check_told_comers,
                           comers, frac, is_lowest, pair, swapped, unlowered)

RATE = ("rate", (2, 1), (1, 1))
REST = ("rate", (0, 1), (1, 1))
K = ("again", 10 ** 30, ("behind", [RATE, REST]))
BAD_SCHEDULES = [thing for thing in ODD] + [
    ("rate",), ("rate", (1, 1)), ("rate", (1, 1), (1, 1), (1, 1)), ("rate", (-1, 1), (1, 1)), ("rate", (1, 1), (0, 1)),
    ("rate", (1, 1), (-1, 1)), ("rates", (1, 1), (1, 1)), ("Rate", (1, 1), (1, 1)), ("behind",), ("behind", []),
    ("behind", RATE), ("behind", [RATE], [RATE]), ("behind", [RATE, None]), ("behind", "ab"), ("behind", {0: RATE}),
    ("again", 1), ("again", RATE), ("again", 2, [RATE]), ("again", 2, RATE, RATE), ("again", 2, ("behind", [("again", 0, RATE)])),
    (None, 1, RATE), (1, (1, 1), (1, 1)), [[RATE]], {"rate": (1, 1)}] + [
    ("rate", thing, (1, 1)) for thing in NO_MOMENTS] + [("rate", (1, 1), thing) for thing in NO_FRACTIONS] + [
    ("again", thing, RATE) for thing in NO_INTEGERS + [0, -1]] + [
    ("again", 2, thing) for thing in ODD] + [("behind", [RATE, thing]) for thing in ODD]


def any_schedule(chance, deep=3, most=3, rates=(0, 6), beats=3):
    """A schedule that is at most so many deep, whose parts come again at most so often."""
    sort = chance.number(0, 3) if deep > 1 else 0
    if sort == 1:
        return ("again", chance.number(1, most), any_schedule(chance, deep - 1, most, rates, beats))
    if sort > 1:
        return ("behind", [any_schedule(chance, deep - 1, most, rates, beats) for _ in range(chance.number(1, 3))])
    return ("rate", pair(chance.fraction(*rates)), pair(chance.fraction(0, beats) + Fraction(1, chance.number(1, 6))))


def parts_of(schedule):
    """All rates and beats, one behind another, by the words of 16.1."""
    if schedule[0] == "rate":
        return [(frac(schedule[1]), frac(schedule[2]))]
    if schedule[0] == "again":
        return parts_of(schedule[2]) * schedule[1]
    return [part for one in schedule[1] for part in parts_of(one)]


def out_by_words(schedule):
    """The comers that are written out, as plain numbers, perhaps with like rates in neighbours."""
    steps = []
    moment = Fraction(0)
    for rate, beats in parts_of(schedule):
        steps.append((moment, rate))
        moment += beats
    return comers(*steps, (moment, 0))


class SchedulesTest(unittest.TestCase):
    def check_schedule(self, schedule):
        parts = parts_of(schedule)
        self.assertIs(is_schedule(schedule), True)
        same = swapped(unlowered(schedule))
        self.assertIs(is_schedule(same), True)
        whole = sum([beats for _, beats in parts])
        heap = sum([rate * beats for rate, beats in parts])
        for one in (schedule, same):
            self.assertEqual((beats_of(one), heap_of(one)), (pair(whole), pair(heap)))
        steps = out_by_words(schedule)
        told = written_out(schedule)
        check_told_comers(self, told)
        self.assertEqual(written_out(same), told)
        self.assertEqual(told[-1][1], (0, 1))
        begins = [frac(moment) for moment, _ in steps]
        looked = begins + [(one + 2 * other) / 3 for one, other in zip(begins, begins[1:])] + [whole + 1, whole + 10 ** 20]
        for moment in looked:
            rate, came = rate_in(schedule, pair(moment)), come_in(schedule, pair(moment))
            self.assertEqual(rate, rate_at(steps, pair(moment)))
            self.assertEqual(rate, rate_at(told, pair(moment)))
            self.assertEqual(came, come_by(steps, pair(moment)))
            self.assertTrue(is_lowest(rate) and is_lowest(came))
            self.assertEqual((rate_in(same, unlowered(pair(moment))), come_in(same, list(pair(moment)))), (rate, came))
            self.check_when(schedule, same, frac(came), moment)
        for more in (Fraction(1, 60), 1, 10 ** 9):
            self.assertIsNone(moment_when(schedule, pair(heap + more)))

    def check_when(self, schedule, same, came, moment):
        told = moment_when(schedule, pair(came))
        self.assertEqual(moment_when(same, unlowered(pair(came))), told)
        self.assertTrue(is_lowest(told))
        self.assertLessEqual(frac(told), moment)
        self.assertEqual(frac(come_in(schedule, told)), came)
        # It is the least one: a little earlier fewer came.
        if frac(told) > 0:
            self.assertLess(frac(come_in(schedule, pair(frac(told) - Fraction(1, 10 ** 6)))), came)

    def test_samples(self):
        chance = Chance(301)
        for _ in range(120):
            self.check_schedule(any_schedule(chance))

    def test_by_hand(self):
        for schedule in (RATE, REST, ("behind", [REST]), ("again", 5, REST), ("again", 3, ("behind", [REST, REST, RATE])),
                         ("behind", [RATE, ("behind", [RATE, REST]), REST, RATE]), ("again", 1, ("again", 1, RATE))):
            self.check_schedule(schedule)
        self.assertEqual(written_out(("again", 4, ("again", 5, RATE))), comers((0, 2), (20, 0)))
        self.assertEqual(written_out(("again", 5, REST)), comers((0, 0)))
        self.assertEqual(moment_when(("behind", [REST, RATE]), (0, 9)), (0, 1))
        self.assertEqual(moment_when(("behind", [REST, RATE, REST, RATE]), (2, 1)), (2, 1))
        self.assertEqual(moment_when(("again", 9, ("behind", [REST, RATE, REST])), (4, 1)), (5, 1))

    def test_again_very_often(self):
        deep = ("again", 10 ** 30, ("behind", [K, ("again", 10 ** 30, ("again", 10 ** 30, REST)), RATE]))
        day = 2 * 10 ** 30 + 10 ** 60 + 1
        self.assertEqual(beats_of(deep), (10 ** 30 * day, 1))
        self.assertEqual(heap_of(deep), (10 ** 30 * (2 * 10 ** 30 + 2), 1))
        for turn in (0, 1, 7 * 10 ** 29, 10 ** 30 - 1):
            begin, ahead = turn * day, turn * (2 * 10 ** 30 + 2)
            for moment, came in ((0, 0), (Fraction(1, 6), Fraction(1, 3)), (2 * 10 ** 29 + Fraction(1, 2), 2 * 10 ** 29 + 1),
                                 (2 * 10 ** 30, 2 * 10 ** 30), (10 ** 60, 2 * 10 ** 30), (day - 1, 2 * 10 ** 30),
                                 (day - Fraction(1, 2), 2 * 10 ** 30 + 1)):
                self.assertEqual(come_in(deep, pair(begin + moment)), pair(ahead + came))
            self.assertEqual(rate_in(deep, (begin + 2 * 10 ** 29, 1)), (2, 1))
            self.assertEqual(rate_in(deep, (begin + 2 * 10 ** 29 + 1, 1)), (0, 1))
            self.assertEqual(rate_in(deep, (begin + day - 1, 1)), (2, 1))
            self.assertEqual(moment_when(deep, pair(ahead + 2 * 10 ** 30 + 1)), pair(begin + day - Fraction(1, 2)))
            self.assertEqual(moment_when(deep, pair(ahead + 2 * 10 ** 29 + 1)), pair(begin + 2 * 10 ** 29 + Fraction(1, 2)))
        self.assertEqual(come_in(deep, (10 ** 100, 1)), heap_of(deep))
        self.assertEqual(rate_in(deep, (10 ** 100, 7)), (0, 1))
        self.assertIsNone(moment_when(deep, (10 ** 100, 59)))
        self.assertEqual(written_out(("again", 10 ** 30, ("behind", [RATE, ("again", 10 ** 30, RATE)]))),
                         comers((0, 2), (10 ** 30 * (10 ** 30 + 1), 0)))

    def test_any_object(self):
        for thing in BAD_SCHEDULES:
            self.assertIs(is_schedule(thing), False, thing)
            for call, rest in ((beats_of, ()), (heap_of, ()), (written_out, ()), (rate_in, (None,)), (come_in, (None,)),
                               (moment_when, (None,))):
                check_error(self, BadSchedule, "thing", thing, call, thing, *rest)

    def test_errors(self):
        for call in (rate_in, come_in):
            check_doors(self, call, (K, (1, 1)), [(0, BadSchedule, "thing", BAD_SCHEDULES[:20]),
                                                  (1, BadMoment, "thing", NO_MOMENTS)])
            self.assertEqual(call(moment=(0, 1), schedule=K), call(K, (0, 1)))
        check_doors(self, moment_when, (K, (1, 1)), [(0, BadSchedule, "thing", BAD_SCHEDULES[:20]),
                                                     (1, BadHeap, "thing", NO_MOMENTS)])
        self.assertEqual(moment_when(heap=(0, 1), schedule=K), (0, 1))

    def test_kept_and_new(self):
        schedule = ["behind", [["rate", [4, 2], [1, 1]], ["rate", [0, 1], [3, 1]]]]
        told = written_out(schedule)
        told.clear()
        self.assertEqual(schedule, ["behind", [["rate", [4, 2], [1, 1]], ["rate", [0, 1], [3, 1]]]])
        self.assertEqual(written_out(schedule), comers((0, 2), (1, 0)))

    def test_example(self):
        self.assertEqual((beats_of(K), heap_of(K)), ((2 * 10 ** 30, 1), (2 * 10 ** 30, 1)))
        self.assertEqual(come_in(K, (3, 1)), (4, 1))
        self.assertEqual(moment_when(K, (3, 1)), (5, 2))


if __name__ == "__main__":
    unittest.main()
