"""16.3 to 16.5: days that come again and again, across section 9; and what 16.7 shows of them."""

import unittest
from fractions import Fraction

from quickbythen.days import day_again, day_labels, label_by_day, left_over, pause_for
from quickbythen.errors import BadMany, BadMoment, BadPlace, NoWay
from quickbythen.nets import Net
from quickbythen.phases import label_at, line_at, phases, rests
from quickbythen.refusals import BadNumber, BadSchedule
from quickbythen.schedules import beats_of, written_out
from tests.helpers import (N, NO_INTEGERS, NO_MOMENTS, Chance, check_doors, check_error, check_told_dict, comers, frac, pair,
                           reached, swapped, unlowered)
from tests.test_phases import BAD_MANY
from tests.test_schedules import BAD_SCHEDULES, RATE, any_schedule, out_by_words, parts_of
from tests.test_through import NO_WAY

FEW_BAD = BAD_SCHEDULES[:30]
BAD_NUMBERS = NO_INTEGERS + [-1, -10 ** 30]
STEADY = ("rate", (4, 1), (3, 1))
TWO_REST = ("behind", [STEADY, ("rate", (0, 1), (2, 1))])
THREE_REST = ("behind", [STEADY, ("rate", (0, 1), (3, 1))])


def any_day(chance):
    """A day of at most six parts, written out."""
    while True:
        day = any_schedule(chance, 3, 2, (0, 5), 2)
        if len(parts_of(day)) <= 6:
            return day


def day_by_day(day, many):
    """Comers as they come on so many days, and none behind these."""
    parts = parts_of(day) * many
    steps, moment = [], Fraction(0)
    for rate, beats in parts:
        steps.append((moment, rate))
        moment += beats
    return comers(*steps, (moment, 0))


def end_by(net, day, many):
    """When the last one of the first so many phases of the course ends, by enough days; None if it rests."""
    if len({rate for rate, _ in parts_of(day)}) == 1:
        steps = comers((0, parts_of(day)[0][0]))
        if rests(net, steps, many) is not None:
            return None
        return phase_end(net, steps, many)
    return phase_end(net, day_by_day(day, many + 2), many)


def phase_end(net, steps, many):
    """When the phase behind the first so many begins."""
    return frac(phases(net, steps, many + 1)[many][0])


class DaysTest(unittest.TestCase):
    def labels_by_words(self, net, day, number, many):
        """By 16.4, from labels of enough days written out one behind another."""
        moment = frac(beats_of(day)) * number
        end = end_by(net, day, many)
        if end is not None and end < moment:
            return None
        steps = day_by_day(day, number + 2)
        return {place: pair(frac(label_at(net, steps, place, pair(moment), 10 ** 4)) - moment) for place in reached(net)}

    def check_days(self, net, day, many, most):
        same = (net, swapped(unlowered(day)))
        told = []
        for number in range(most + 1):
            labels = day_labels(net, day, number, many)
            self.assertEqual(labels, self.labels_by_words(net, day, number, many))
            self.assertEqual(day_labels(*same, number, many), labels)
            told.append(labels)
            if labels is not None:
                check_told_dict(self, labels)
                self.assertEqual(list(labels), reached(net))
        again = [(first, days) for first in range(most) for days in range(1, most + 1 - first)
                 if told[first] is not None and told[first] == told[first + days]]
        found = day_again(net, day, most, many)
        self.assertEqual(found, again[0] if again else None)
        self.assertTrue(found is None or type(found) is tuple)
        self.assertEqual(day_again(*same, most, many), found)
        self.check_by_day(net, day, many, most, found)
        return found

    def check_by_day(self, net, day, many, most, again):
        """Labels of anybody, by phases or by days that repeat themselves, against those of many days."""
        beats, end = frac(beats_of(day)), end_by(net, day, many)
        steps = day_by_day(day, 12)
        for moment in [beats * part / 4 for part in range(0, 44, 3)] + ([end] if end is not None and end < 11 * beats else []):
            for place in reached(net):
                told = label_by_day(net, day, place, pair(moment), most, many)
                if end is not None and moment > end and again is None:
                    self.assertIsNone(told)
                else:
                    self.assertEqual(told, label_at(net, steps, place, pair(moment), 10 ** 4))
        if again is not None:
            first, days = again
            far = pair(10 ** 100 * beats * days + beats * first + beats / 3)
            near = pair(beats * first + beats / 3)
            for place in reached(net):
                label = frac(label_by_day(net, day, place, near, most, many))
                self.assertEqual(label_by_day(net, day, place, far, most, many), pair(label + 10 ** 100 * beats * days))

    def test_samples(self):
        chance = Chance(321)
        found = [0, 0]
        for _ in range(50):
            net = chance.net(4, 6)
            again = self.check_days(net, any_day(chance), chance.random.choice([1, 3, 9, 40]), chance.number(0, 6))
            found[again is None] += 1
        self.assertGreater(min(found), 10)

    def test_days_that_leave_more_and_more(self):
        day = ("behind", [("rate", (9, 1), (2, 1)), ("rate", (0, 1), (1, 1))])
        self.assertIsNone(self.check_days(N, day, 60, 6))
        ends = [frac(day_labels(N, day, number, 60)[3]) for number in range(6)]
        self.assertEqual(ends, sorted(set(ends)))

    def test_steady_days(self):
        # The course can rest, though days go on; labels stay, or grow, beside the begins.
        self.assertEqual(self.check_days(N, ("again", 2, ("rate", (3, 1), (1, 2))), 9, 7), (6, 1))
        self.assertIsNone(self.check_days(N, STEADY, 9, 6))
        self.assertEqual(day_again(N, ("rate", (1, 1), (7, 2)), 10 ** 30, 9), (0, 1))
        self.assertIsNone(day_again(N, STEADY, 10 ** 30, 9))
        self.assertEqual(day_labels(N, ("rate", (1, 1), (7, 2)), 10 ** 30, 1), {0: (0, 1), 1: (1, 1), 2: (2, 1), 3: (3, 1)})

    def test_days_again_later(self):
        """First a day leaves something over, then it is as much each day."""
        net = Net(2, [(0, 1, 1, 2), (0, 1, 3, 2)], 0, 1)
        day = ("behind", [("rate", (6, 1), (2, 1)), ("rate", (3, 1), (4, 1))])
        self.assertEqual(self.check_days(net, day, 60, 6), (1, 1))
        self.assertEqual([day_labels(net, day, number, 60)[1] for number in range(3)], [(1, 1), (3, 1), (3, 1)])
        self.assertEqual(label_by_day(net, day, 1, (10 ** 30, 1), 2, 60), (2 * 10 ** 30 + 7, 2))
        self.assertIsNone(label_by_day(net, day, 1, (10 ** 30, 1), 1, 60))

    def test_example(self):
        self.assertEqual(day_labels(N, TWO_REST, 1, 20), {0: (0, 1), 1: (1, 1), 2: (2, 1), 3: (4, 1)})
        self.assertEqual(day_again(N, THREE_REST, 9, 20), (0, 1))
        self.assertEqual(label_by_day(N, THREE_REST, 3, (6 * 10 ** 30 + 1, 1), 9, 20), (6 * 10 ** 30 + 5, 1))
        self.assertEqual(left_over(N, TWO_REST, 20), {4: (2, 1)})
        self.assertEqual(pause_for(N, STEADY, 20), (3, 1))


class LeftOverTest(unittest.TestCase):
    def check_left(self, net, day, many):
        told = left_over(net, day, many)
        self.assertEqual(left_over(net, swapped(unlowered(day)), many), told)
        end, beats = end_by(net, day, many), beats_of(day)
        if end is not None and end < frac(beats):
            self.assertIsNone(told)
            return None
        steps = day_by_day(day, 3)
        lines = {number: line_at(net, steps, number, beats, 10 ** 4) for number, road in enumerate(net.roads())
                 if road[0] in reached(net)}
        self.assertEqual(told, {number: lines[number] for number in lines if lines[number] != (0, 1)})
        check_told_dict(self, told)
        first, second = day_labels(net, day, 0, many), day_labels(net, day, 1, many)
        self.assertIs(told == {}, first == second)
        return told

    def check_pause(self, net, day, many):
        told = pause_for(net, day, many)
        self.assertEqual(pause_for(net, swapped(unlowered(day)), many), told)
        self.assertIs(told is None, rests(net, out_by_words(day), many) is None)
        if told is None:
            return None
        for more in (0, Fraction(1, 7), 5):
            pause = ("rate", (0, 1), pair(frac(told) + more))
            paused = ("behind", [day, pause]) if frac(told) + more > 0 else day
            self.assertEqual(left_over(net, paused, 10 ** 3), {})
        for less in (Fraction(1, 10 ** 6), frac(told) / 2, frac(told)):
            if 0 < less <= frac(told):
                pause = ("rate", (0, 1), pair(frac(told) - less))
                paused = ("behind", [day, pause]) if frac(told) > less else day
                self.assertNotEqual(left_over(net, paused, 10 ** 3), {})
        return told

    def test_samples(self):
        chance = Chance(323)
        left, pauses = {}, {}
        for _ in range(80):
            net, day = chance.net(4, 6), any_day(chance)
            told = self.check_left(net, day, chance.random.choice([1, 2, 40]))
            left[None if told is None else told == {}] = True
            told = self.check_pause(net, day, chance.random.choice([1, 3, 60]))
            pauses[None if told is None else told == (0, 1)] = True
        self.assertEqual(set(left), {None, True, False})
        self.assertEqual(set(pauses), {None, True, False})

    def test_by_hand(self):
        self.assertEqual(self.check_pause(N, STEADY, 9), (3, 1))
        self.assertEqual(self.check_pause(N, THREE_REST, 9), (0, 1))
        self.assertEqual(self.check_pause(N, TWO_REST, 9), (1, 1))
        self.assertEqual(self.check_left(N, STEADY, 9), {0: (2, 1), 4: (4, 1)})
        self.assertEqual(self.check_left(N, ("rate", (0, 1), (1, 1)), 1), {})


class ErrorsTest(unittest.TestCase):
    def test_in_order(self):
        day, number, many = (1, BadSchedule, "thing", FEW_BAD), (BadNumber, "number", BAD_NUMBERS), (BadMany, "many", BAD_MANY)
        for call in (day_labels, day_again):
            check_doors(self, call, (N, RATE, 2, 9), [day, (2, *number), (3, *many)])
        for call in (left_over, pause_for):
            check_doors(self, call, (N, RATE, 9), [day, (2, *many)])
        places = NO_INTEGERS + [-1, 4, 10 ** 9]
        check_doors(self, label_by_day, (N, RATE, 3, (1, 1), 2, 9), [
            day, (2, BadPlace, "place", places), (3, BadMoment, "thing", NO_MOMENTS), (4, *number), (5, *many)])
        far = Net(4, [(0, 1, 1, 1), (2, 1, 1, 1)], 0, 1)
        for place in (2, 3):
            check_error(self, BadPlace, "place", place, label_by_day, far, RATE, place, None, 2, 9)

    def test_no_way(self):
        for call, rest in ((day_labels, (1, 1)), (day_again, (1, 1)), (left_over, (1,)), (pause_for, (1,)),
                           (label_by_day, (0, (0, 1), 1, 1))):
            check_error(self, NoWay, "args", (), call, NO_WAY, RATE, *rest)
            check_error(self, BadMany, "many", 0, call, NO_WAY, RATE, *rest[:-1], 0)

    def test_by_names_and_new(self):
        self.assertEqual(day_labels(many=20, number=1, day=TWO_REST, net=N), day_labels(N, TWO_REST, 1, 20))
        self.assertEqual(day_again(many=20, number=9, day=THREE_REST, net=N), (0, 1))
        self.assertEqual(label_by_day(many=20, number=9, moment=(1, 1), place=3, day=THREE_REST, net=N), (5, 1))
        self.assertEqual(left_over(many=20, day=TWO_REST, net=N), {4: (2, 1)})
        self.assertEqual(pause_for(many=20, day=STEADY, net=N), (3, 1))
        day_labels(N, TWO_REST, 1, 20).clear()
        left_over(N, TWO_REST, 20).clear()
        self.assertEqual(left_over(N, TWO_REST, 20), {4: (2, 1)})
        self.assertEqual(written_out(STEADY), comers((0, 4), (3, 0)))


if __name__ == "__main__":
    unittest.main()
