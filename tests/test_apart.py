"""16.2: when two schedules come apart; and what 16.7 shows of it."""

import unittest
from fractions import Fraction

from quickbythen.apart import schedules_apart
from quickbythen.comers import rate_at
from quickbythen.refusals import BadSchedule
from quickbythen.schedules import beats_of, rate_in, written_out
from tests.helpers import Chance, check_doors, frac, is_lowest, pair, swapped, unlowered
from tests.test_schedules import BAD_SCHEDULES, RATE, REST, K, any_schedule, parts_of

MANY = 10 ** 30


def otherwise(chance, schedule):
    """The same schedule, made of other parts."""
    if schedule[0] == "rate":
        _, rate, beats = schedule
        sort = chance.number(0, 3)
        if sort == 1:
            first = frac(beats) * Fraction(chance.number(1, 5), 6)
            return ("behind", [("rate", rate, pair(first)), ("rate", rate, pair(frac(beats) - first))])
        if sort == 2:
            return ("again", 3, ("rate", rate, pair(frac(beats) / 3)))
        return schedule
    if schedule[0] == "behind":
        parts = [otherwise(chance, part) for part in schedule[1]]
        if len(parts) > 2 and chance.number(0, 1):
            return ("behind", [("behind", parts[:2])] + parts[2:])
        return ("behind", parts)
    _, many, inner = schedule
    sort = chance.number(0, 3)
    if sort == 1 and many > 1:
        first = chance.number(1, many - 1)
        return ("behind", [("again", first, otherwise(chance, inner)), ("again", many - first, inner)])
    if sort == 2 and many % 2 == 0:
        return ("again", many // 2, ("behind", [inner, otherwise(chance, inner)]))
    if sort == 3 and inner[0] == "behind" and len(inner[1]) > 1 and many > 1:
        parts = list(inner[1])
        return ("behind", parts[:1] + [("again", many - 1, ("behind", parts[1:] + parts[:1]))] + parts[1:])
    return ("again", many, otherwise(chance, inner))


def with_other_end(chance, schedule):
    """A schedule, changed only at its end: what comes there, or how long."""
    return ("behind", [schedule, ("rate", pair(chance.fraction(0, 2)), pair(Fraction(chance.number(1, 6), 6)))])


class ApartTest(unittest.TestCase):
    def check_small(self, one, other):
        """By all that is written out."""
        told = schedules_apart(one, other)
        self.assertEqual(schedules_apart(other, one), told)
        self.assertEqual(schedules_apart(swapped(one), swapped(unlowered(other))), told)
        first, second = written_out(one), written_out(other)
        moments = sorted({frac(moment) for moment, _ in first + second})
        unlike = [moment for moment in moments if rate_at(first, pair(moment)) != rate_at(second, pair(moment))]
        self.assertEqual(told, pair(unlike[0]) if unlike else None)
        self.assertIs(told is None, first == second)
        return told

    def test_samples(self):
        chance = Chance(311)
        found = [0, 0]
        for _ in range(150):
            one = any_schedule(chance, 4)
            self.assertIsNone(self.check_small(one, one))
            other = one
            for _ in range(chance.number(1, 3)):
                other = otherwise(chance, other)
            self.assertIsNone(self.check_small(one, other))
            found[self.check_small(with_other_end(chance, one), other) is None] += 1
            found[self.check_small(one, any_schedule(chance, 3, 3, (0, 1), 1)) is None] += 1
        self.assertGreater(min(found), 20)

    def test_very_often(self):
        """Bodies that come again very often, made otherwise: alike up to the very end."""
        chance = Chance(312)
        for _ in range(120):
            body = ("behind", [("rate", pair(chance.number(0, 2)), pair(Fraction(chance.number(1, 12), chance.number(1, 6))))
                               for _ in range(chance.number(1, 4))])
            one = ("again", MANY, body)
            other = one
            for _ in range(chance.number(1, 3)):
                other = otherwise(chance, other)
            self.assertIsNone(schedules_apart(one, other))
            end = beats_of(one)
            for rate in (0, 3):
                later = ("behind", [other, ("rate", (rate, 1), (1, 6))])
                self.assertEqual(schedules_apart(one, later), None if rate == 0 else end)
                self.assertEqual(schedules_apart(later, one), None if rate == 0 else end)
            fewer = ("again", MANY - 1, body)
            told = schedules_apart(other, fewer)
            if told is None:
                self.assertTrue(all([rate == 0 for rate, _ in parts_of(body)]))
            else:
                self.check_apart(other, fewer, told)
                self.assertGreaterEqual(frac(told), frac(beats_of(fewer)))

    def check_apart(self, one, other, told):
        self.assertTrue(is_lowest(told))
        self.assertNotEqual(rate_in(one, told), rate_in(other, told))
        for part in (Fraction(1, 10 ** 9), Fraction(1, 2), Fraction(7, 3), 10 ** 20):
            if frac(told) >= part:
                self.assertEqual(rate_in(one, pair(frac(told) - part)), rate_in(other, pair(frac(told) - part)))

    def test_like_rates_and_unlike_lengths(self):
        # Both change between 2 and 0: one every beat, the other one every 7/6 beats, or a little later each time.
        for beats in (Fraction(7, 6), Fraction(6, 5), 2, 3, 60):
            other = ("again", MANY, ("behind", [("rate", (2, 1), pair(beats)), ("rate", (0, 1), pair(beats))]))
            told = schedules_apart(K, other)
            self.assertEqual(told, (1, 1))
        # Two whole bodies of three and of two beats: alike for two beats, or for ever if all is the same rate.
        three = ("again", MANY, ("behind", [RATE, REST, REST]))
        two = ("again", MANY, ("behind", [RATE, REST]))
        self.assertEqual(schedules_apart(three, two), (2, 1))
        steady = [("again", MANY, ("behind", [("rate", (2, 1), (beats, 6)), ("rate", (2, 1), (5, 6))])) for beats in (1, 2)]
        self.assertEqual(schedules_apart(steady[0], steady[1]), (MANY, 1))
        self.assertIsNone(schedules_apart(("again", MANY, ("again", 7, REST)), ("again", 3, REST)))
        self.assertIsNone(schedules_apart(steady[0], ("again", MANY, ("rate", (2, 1), (1, 1)))))

    def test_nobody_for_long(self):
        pause = ("again", MANY, ("again", MANY, REST))
        one = ("behind", [RATE, pause, RATE])
        self.assertIsNone(schedules_apart(one, ("behind", [RATE, pause, RATE, pause])))
        self.assertEqual(schedules_apart(one, ("behind", [RATE, pause])), (MANY * MANY + 1, 1))
        self.assertEqual(schedules_apart(one, ("behind", [RATE, pause, REST, RATE])), (MANY * MANY + 1, 1))
        self.assertEqual(schedules_apart(("behind", [pause, RATE]), REST), (MANY * MANY, 1))
        self.assertIsNone(schedules_apart(pause, REST))

    def test_parts_within_parts(self):
        """Somewhat beyond what is asked for: bodies that have very many parts themselves."""
        inner = ("again", MANY, ("behind", [RATE, REST]))
        one = ("again", MANY, ("behind", [inner, ("again", 3, REST)]))
        other = ("again", MANY // 2, ("behind", [inner, ("rate", (0, 1), (3, 1)), ("again", MANY // 2, ("again", 2, ("behind", [
            RATE, REST]))), ("again", 6, ("rate", (0, 1), (1, 2)))]))
        self.assertIsNone(schedules_apart(one, other))
        last = ("again", MANY, ("behind", [inner, ("again", 3, REST), RATE]))
        # A second RATE comes in one of both when the other one begins again.
        self.assertEqual(schedules_apart(one, last), (2 * MANY + 4, 1))

    def test_within_limits(self):
        body = [("rate", (at % 3, 1), (60 if at else 1, 6 if at == 0 else 1)) for at in range(9)]
        one = ("again", MANY, ("behind", body))
        other = ("behind", body[:4] + [("again", MANY - 1, ("behind", body[4:] + body[:4]))] + body[4:])
        self.assertIsNone(schedules_apart(one, other))
        short = ("again", MANY, ("behind", [("rate", (0, 1), (1, 6)), ("rate", (0, 1), (1, 5))]))
        self.assertEqual(schedules_apart(one, short), (1, 6))
        slow = ("again", MANY, ("behind", [("rate", (0, 1), (60, 1)), ("rate", (0, 1), (59, 6))]))
        self.assertEqual(schedules_apart(short, slow), None)
        self.assertEqual(schedules_apart(("behind", [short, RATE]), slow), pair(MANY * Fraction(11, 30)))

    def test_example(self):
        other = ("behind", [RATE, ("again", MANY, ("behind", [REST, RATE]))])
        self.assertEqual(schedules_apart(K, other), (2 * MANY, 1))
        self.assertEqual(schedules_apart(other=K, one=other), (2 * MANY, 1))

    def test_errors(self):
        check_doors(self, schedules_apart, (K, RATE), [(0, BadSchedule, "thing", BAD_SCHEDULES),
                                                       (1, BadSchedule, "thing", BAD_SCHEDULES)])


if __name__ == "__main__":
    unittest.main()
