"""14.1 to 14.3 and 14.5: wishes, settings out by which nobody gains, stretches; and what 14.6 shows of them."""

import unittest
from fractions import Fraction

from quickbythen.comers import come_by, rate_at
from quickbythen.madecurves import curve_of
from quickbythen.oneroad import line_on
from quickbythen.refusals import BadEarly, BadLate, BadLength, BadRoom, BadSetting, BadWishes, TooSoon
from quickbythen.rows import together
from quickbythen.settingout import gains, settled, stretches, troubles
from tests.helpers import (NO_FRACTIONS, NO_INTEGERS, NO_MOMENTS, ODD, Chance, check_doors, check_error, check_told_comers,
                           comers, frac, heap, is_lowest, pair, swapped, unlowered)
from tests.test_phases import BAD_COMERS

ONE_WISH = (1, 2, [((20, 1), (6, 1))], (1, 2), (1, 1))
TWO = (1, 2, [((20, 1), (6, 1)), ((24, 1), (6, 1))], (1, 2), (1, 1))
BAD_WISHES = [None, 5, "", "ab", [], (), {}, {0: ((1, 1), (1, 1))}, True] + [[thing] for thing in ODD] + [
    [(thing, (1, 1))] for thing in NO_MOMENTS] + [[((1, 1), thing)] for thing in NO_MOMENTS + [(0, 1), (0, 7)]]
BAD_EARLIES = NO_FRACTIONS + [(0, 1), (-1, 2), (1, 1), (3, 3), (7, 2), 1]
BAD_LATES = NO_FRACTIONS + [(0, 1), (0, 9), (-1, 2), 1]
DOORS = [(0, BadRoom, "room", NO_INTEGERS + [0, -1]), (1, BadLength, "length", NO_INTEGERS + [0, -3]),
         (2, BadWishes, "index", BAD_WISHES), (3, BadEarly, "early", BAD_EARLIES), (4, BadLate, "late", BAD_LATES)]


def any_case(chance, many=4, until=60):
    """A road, wishes and what is worth; the wishes far apart, or near to one another."""
    late = until if chance.number(0, 1) else 12
    moments = sorted({40 + chance.fraction(0, late) for _ in range(chance.number(1, many))})
    wishes = [(pair(moment), pair(chance.fraction(0, 9) + Fraction(1, 6))) for moment in moments]
    early = Fraction(chance.number(1, 5), 6)
    late = Fraction(chance.number(1, 12), chance.number(1, 6))
    return (chance.number(1, 4), chance.number(1, 5), wishes, pair(early), pair(late))


class Looked:
    """All that come to the road, played out by the words of 3.4, and the trouble of each drop."""

    def __init__(self, case, streams):
        self.room, self.length, wishes, self.early, self.late = case
        self.early, self.late = frac(self.early), frac(self.late)
        self.wishes = [frac(moment) for moment, _ in wishes]
        self.streams = streams
        self.bends = sorted({frac(moment) for steps in streams for moment, _ in steps})
        self.ahead = [self.came(moment) - self.room * moment for moment in self.bends]
        self.known = {}

    def came(self, moment):
        return sum([heap(steps, moment) for steps in self.streams])

    def wait(self, moment):
        """The most that came since some moment, less what could go in since then, by the room."""
        if moment not in self.known:
            now = self.came(moment) - self.room * moment
            least = min([now] + [one for begin, one in zip(self.bends, self.ahead) if begin <= moment])
            self.known[moment] = (now - least) / self.room
        return self.known[moment]

    def out(self, moment):
        return moment + self.wait(moment) + self.length

    def trouble(self, index, moment):
        out, wish = self.out(moment), self.wishes[index]
        return self.wait(moment) + max(self.early * (wish - out), self.late * (out - wish))

    def moments(self):
        """Moments at which trouble may be least, and others."""
        last = self.bends[-1]
        fixed = sorted(set(self.bends + [last + 1, last + 9] + [max(wish - self.length, Fraction(0)) for wish in self.wishes]))
        between = [(2 * one + other) / 3 for one, other in zip(fixed, fixed[1:])]
        return sorted(fixed + between + [(one + 2 * other) / 3 for one, other in zip(fixed, fixed[1:])])


class SettledTest(unittest.TestCase):
    def check_stretches(self, case):
        """By the words of 14.3."""
        room, _, wishes, early, late = case
        told = stretches(*case)
        self.assertEqual(stretches(room, case[1], swapped(unlowered(wishes)), list(unlowered(early)), unlowered(late)), told)
        self.assertTrue(type(told) is list and all([type(part) is tuple and type(part[2]) is list for part in told]))
        self.assertEqual([index for part in told for index in part[2]], list(range(len(wishes))))
        for part, following in zip(told, told[1:]):
            self.assertLess(frac(part[1]), frac(following[0]))
        spans = []
        for begin, end, indexes in told:
            self.assertTrue(is_lowest(begin) and is_lowest(end))
            now, wait = frac(begin), Fraction(0)
            for index in indexes:
                wish, last = frac(wishes[index][0]), now + frac(wishes[index][1]) / room
                turn = min(max(wish, now), last)
                spans.append((now, turn, last, wait))
                wait += frac(early) * (turn - now) - frac(late) * (last - turn)
                self.assertGreaterEqual(wait, 0)
                now = last
            self.assertEqual((now, wait), (frac(end), 0))
        return spans

    def check_troubles(self, case, spans):
        told = troubles(*case)
        self.assertEqual(troubles(case[0], case[1], swapped(unlowered(case[2])), unlowered(case[3]), case[4]), told)
        self.assertTrue(type(told) is list and all([is_lowest(trouble) for trouble in told]))
        for trouble, (begin, turn, end, wait), (wish, _) in zip(told, spans, case[2]):
            early, late = frac(case[3]), frac(case[4])
            self.assertEqual(frac(trouble), wait + max(early * (frac(wish) - begin), late * (begin - frac(wish))))
            over = wait + early * (turn - begin) - late * (end - turn)
            self.assertEqual(frac(trouble), over + max(early * (frac(wish) - end), late * (end - frac(wish))))
        return told

    def check_settled(self, case, spans, told):
        room, length, wishes, early, late = case
        streams = settled(*case)
        self.assertEqual(settled(room, length, swapped(unlowered(wishes)), list(unlowered(early)), unlowered(late)), streams)
        self.assertTrue(type(streams) is list and len(streams) == len(wishes))
        looked = Looked(case, streams)
        for index, (steps, (begin, turn, end, wait)) in enumerate(zip(streams, spans)):
            check_told_comers(self, steps)
            self.assertEqual((come_by(steps, (10 ** 6, 1)), steps[-1][1]), (wishes[index][1], (0, 1)))
            for moment, rate in steps[:-1]:
                if rate != (0, 1):
                    is_early = begin <= looked.out(frac(moment)) < turn
                    self.assertEqual(frac(rate), room / (1 - frac(early)) if is_early else room / (1 + frac(late)))
            came = [frac(moment) for moment, rate in steps if rate != (0, 1)][0]
            self.assertEqual((looked.out(came), looked.wait(came)), (begin, wait))
            self.assertEqual(looked.trouble(index, came), frac(told[index]))
        for steps, following in zip(streams, streams[1:]):
            begins = [frac(moment) for moment, rate in following if rate != (0, 1)]
            self.assertLessEqual(frac(steps[-1][0]), begins[0])
        # And nobody gains: so it is the only one.
        self.assertIsNone(gains(*case, streams))
        for index in range(len(wishes)):
            self.assertEqual(min([looked.trouble(index, moment) for moment in looked.moments()]), frac(told[index]))

    def test_samples(self):
        chance = Chance(231)
        found = {}
        for _ in range(100):
            case = any_case(chance)
            spans = self.check_stretches(case)
            told = self.check_troubles(case, spans)
            if spans[0][0] < case[1]:
                self.check_soon(case, spans[0][0] - case[1])
                continue
            self.check_settled(case, spans, told)
            found[(len(case[2]), len(stretches(*case)))] = True
        self.assertLessEqual({1, 2, 3}, {many for _, many in found})

    def check_soon(self, case, moment):
        with self.assertRaises(TooSoon) as caught:
            settled(*case)
        self.assertEqual(caught.exception.moment, pair(moment))

    def test_too_soon(self):
        found = 0
        chance = Chance(232)
        for _ in range(40):
            room, length, wishes, early, late = any_case(chance)
            wishes = [(pair(frac(moment) - 40), heap) for moment, heap in wishes]
            case = (room, length, wishes, early, late)
            spans = self.check_stretches(case)
            self.check_troubles(case, spans)
            if spans[0][0] < length:
                self.check_soon(case, spans[0][0] - length)
                found += 1
        self.assertGreater(found, 10)
        self.check_soon((1, 3, [((0, 1), (6, 1))], (1, 2), (1, 1)), Fraction(-7))
        # Setting out at (0, 1) is just soon enough.
        case = (1, 2, [((6, 1), (6, 1))], (1, 2), (1, 1))
        self.assertEqual(settled(*case), [comers((0, 2), (2, Fraction(1, 2)), (6, 0))])
        self.assertEqual(stretches(*case), [((2, 1), (8, 1), [0])])
        self.check_soon((1, 2, [((59, 10), (6, 1))], (1, 2), (1, 1)), Fraction(-1, 10))

    def test_wishes_that_touch(self):
        # Alone they need [16, 22] and [22, 28]: both are one stretch, and nobody waits at 22.
        case = (1, 2, [((20, 1), (6, 1)), ((26, 1), (6, 1))], (1, 2), (1, 1))
        self.assertEqual(stretches(*case), [((16, 1), (28, 1), [0, 1])])
        self.check_settled(case, self.check_stretches(case), [(2, 1), (2, 1)])
        near = case[:2] + ([((20, 1), (6, 1)), ((2599, 100), (6, 1))],) + case[3:]
        self.assertEqual(len(stretches(*near)), 1)
        far = case[:2] + ([((20, 1), (6, 1)), ((2601, 100), (6, 1))],) + case[3:]
        self.assertEqual(len(stretches(*far)), 2)

    def test_one_wish(self):
        chance = Chance(233)
        for _ in range(40):
            case = any_case(chance, 1)
            room, _, wishes, early, late = case
            early, late, heap_wanted = frac(early), frac(late), frac(wishes[0][1])
            self.assertEqual(frac(troubles(*case)[0]), early * late / (early + late) * heap_wanted / room)
            # Half of all trouble is waiting.
            waits = line_on((case[1], room), together(settled(*case)))
            area = sum([(frac(end) - frac(begin)) * (frac(one) + frac(other)) / 2
                        for (begin, one), (end, other) in zip(waits[0], waits[0][1:])])
            self.assertEqual(area * 2, frac(troubles(*case)[0]) * heap_wanted)

    def test_more_room_more_drops(self):
        chance = Chance(234)
        for _ in range(60):
            case = any_case(chance)
            room, length, wishes, early, late = case
            told = [frac(one) for one in troubles(*case)]
            wider = [frac(one) for one in troubles(room + chance.number(1, 4), length, wishes, early, late)]
            self.assertTrue(all([more >= less for more, less in zip(told, wider)]))
            at = chance.number(0, len(wishes) - 1)
            more = [(moment, pair(frac(heap) + (index == at))) for index, (moment, heap) in enumerate(wishes)]
            fuller = [frac(one) for one in troubles(room, length, more, early, late)]
            self.assertTrue(all([more >= less for more, less in zip(fuller, told)]))
            double = [(moment, pair(2 * frac(heap))) for moment, heap in wishes]
            self.assertEqual(troubles(2 * room, length, double, early, late), troubles(*case))
            later = [(pair(frac(moment) + 60), heap) for moment, heap in wishes]
            self.assertEqual(troubles(room, length, later, early, late), troubles(*case))
            put_off = settled(room, length, [(pair(frac(moment) + 7), heap) for moment, heap in later], early, late)
            first = settled(room, length, later, early, late)
            self.assertEqual(put_off, [[((0, 1), (0, 1))] + [(pair(frac(moment) + 7), rate) for moment, rate in steps[1:]]
                                       for steps in first])

    def test_example(self):
        self.assertEqual(stretches(*ONE_WISH), [((16, 1), (22, 1), [0])])
        self.assertEqual(troubles(*ONE_WISH), [(2, 1)])
        self.assertEqual(settled(*ONE_WISH), [[((0, 1), (0, 1)), ((14, 1), (2, 1)), ((16, 1), (1, 2)), ((20, 1), (0, 1))]])
        self.assertEqual(stretches(*TWO), [((15, 1), (27, 1), [0, 1])])
        self.assertEqual(troubles(*TWO), [(5, 2), (3, 1)])
        self.assertEqual(settled(*TWO)[1], [((0, 1), (0, 1)), ((35, 2), (2, 1)), ((19, 1), (1, 2)), ((25, 1), (0, 1))])


class GainsTest(unittest.TestCase):
    def check_gains(self, case, streams):
        """By the words of 14.2: somebody gains just as told, or nobody does at any of many moments."""
        told = gains(*case, streams)
        self.assertEqual(gains(case[0], case[1], swapped(case[2]), unlowered(case[3]), list(case[4]),
                               swapped(unlowered(streams))), told)
        looked = Looked(case, streams)
        if told is None:
            for index, steps in enumerate(streams):
                least = min([looked.trouble(index, moment) for moment in looked.moments()])
                for moment in looked.moments():
                    if rate_at(steps, pair(moment))[0] > 0:
                        self.assertEqual(looked.trouble(index, moment), least)
            return True
        index, now, instead = told
        self.assertTrue(type(told) is tuple and type(index) is int and is_lowest(now) and is_lowest(instead))
        self.assertGreater(rate_at(streams[index], now)[0], 0)
        self.assertLess(looked.trouble(index, frac(instead)), looked.trouble(index, frac(now)))
        return False

    def some_setting(self, chance, case):
        """Any comers with just the heaps that are wished."""
        found = []
        for _, wanted in case[2]:
            begin, beats = chance.fraction(0, 60), Fraction(chance.number(1, 20), chance.number(1, 3))
            first, later = chance.fraction(0, 1), Fraction(1, 2)
            steps = [(begin, 2 * first), (begin + beats * later, 2 * (1 - first)), (begin + beats, Fraction(0))]
            steps = ([] if begin == 0 else [(Fraction(0), Fraction(0))]) + steps
            found.append(comers(*[(moment, rate * frac(wanted) / beats) for moment, rate in steps]))
        return found

    def test_any_setting(self):
        chance = Chance(235)
        for _ in range(100):
            case = any_case(chance)
            self.check_gains(case, self.some_setting(chance, case))

    def test_nearly_settled(self):
        chance = Chance(236)
        found = [0, 0]
        for _ in range(30):
            case = any_case(chance, 3)
            streams = settled(*case)
            self.assertTrue(self.check_gains(case, streams))
            at = chance.number(0, len(streams) - 1)
            part = chance.random.choice([Fraction(1, 1000), Fraction(1), Fraction(-1, 7)])
            moved = [((0, 1), (0, 1))] + [(pair(frac(moment) + part), rate) for moment, rate in streams[at][1:]]
            found[self.check_gains(case, streams[:at] + [moved] + streams[at + 1:])] += 1
            if len(streams) > 1 and case[2][0][1] == case[2][1][1]:
                found[self.check_gains(case, [streams[1], streams[0]] + streams[2:])] += 1
        self.assertEqual(found[1], 0)

    def test_steady_rates_are_no_settling(self):
        # The whole heap at the rate room: who comes last is late for nothing, while trouble only rises.
        self.assertFalse(self.check_gains(ONE_WISH, [comers((0, 0), (14, 1), (20, 0))]))
        self.assertFalse(self.check_gains(ONE_WISH, [comers((0, 0), (18, 6), (19, 0))]))
        self.assertFalse(self.check_gains(ONE_WISH, [comers((0, 6), (1, 0))]))

    def test_changed_places(self):
        """While the wait rises by early, and all are early, drops of both wishes may come in any order."""
        case = (1, 2, [((20, 1), (2, 1)), ((21, 1), (10, 1))], (1, 2), (1, 1))
        self.assertEqual(stretches(*case), [((13, 1), (25, 1), [0, 1])])
        first, second = settled(*case)
        self.assertEqual((first, second), (comers((0, 0), (11, 2), (12, 0)),
                                           comers((0, 0), (12, 2), (15, Fraction(1, 2)), (23, 0))))
        mixed = [comers((0, 0), (11, 1), (13, 0)), comers((0, 0), (11, 1), (13, 2), (15, Fraction(1, 2)), (23, 0))]
        late = [comers((0, 0), (13, 2), (14, 0)), comers((0, 0), (11, 2), (13, 0), (14, 2), (15, Fraction(1, 2)), (23, 0))]
        for streams in (mixed, late):
            self.assertEqual(curve_of(together(streams)), curve_of(together([first, second])))
            self.assertTrue(self.check_gains(case, streams))
            looked = Looked(case, streams)
            for index, steps in enumerate(streams):
                for moment in looked.moments():
                    if rate_at(steps, pair(moment))[0] > 0:
                        self.assertEqual(pair(looked.trouble(index, moment)), troubles(*case)[index])
        # Not so where those with the earlier wish are late.
        wrong = [comers((0, 0), (15, Fraction(1, 2)), (19, 0)), comers((0, 0), (11, 2), (15, 0), (19, Fraction(1, 2)), (23, 0))]
        self.assertFalse(self.check_gains(case, wrong))

    def test_in_line_from_the_first_moment_on(self):
        case = (1, 2, [((6, 1), (6, 1))], (1, 2), (1, 1))
        self.assertTrue(self.check_gains(case, settled(*case)))
        soon = (1, 2, [((5, 1), (6, 1))], (1, 2), (1, 1))
        self.assertFalse(self.check_gains(soon, settled(*case)))
        self.assertFalse(self.check_gains((1, 2, [((0, 1), (6, 1))], (1, 2), (1, 1)), settled(*case)))

    def test_example(self):
        first, second = settled(*TWO)
        self.assertIsNone(gains(*TWO, [first, second]))
        index, now, instead = gains(*TWO, [second, first])
        self.assertTrue(self.check_gains(TWO, [first, second]))
        self.assertFalse(self.check_gains(TWO, [second, first]))
        looked = Looked(TWO, [second, first])
        # Of who wants to be there at 20 all are there behind 21.
        self.assertGreaterEqual(min([looked.out(moment) for moment in looked.moments()
                                     if rate_at(second, pair(moment))[0] > 0]), 21)
        self.assertLess(looked.trouble(index, frac(instead)), looked.trouble(index, frac(now)))

    def test_bad_settings(self):
        good = settled(*TWO)
        gains(*TWO, tuple(good))
        for thing in [None, 5, "", {}, {0: good[0], 1: good[1]}, True, len]:
            check_error(self, BadSetting, "index", 0, gains, *TWO, thing)
        for many in (0, 1):
            check_error(self, BadSetting, "index", many, gains, *TWO, good[:many])
        check_error(self, BadSetting, "index", 2, gains, *TWO, good + [None, good[0]])
        check_error(self, BadSetting, "index", 2, gains, *TWO, good + good)
        more = comers((0, 6), (1, Fraction(1, 6)), (2, 0))
        wrong = BAD_COMERS + [comers((0, 1)), comers((0, 0)), comers((0, 6), (1, 1)), more, comers((0, 7), (1, 0)), good]
        for thing in wrong:
            check_error(self, BadSetting, "index", 0, gains, *TWO, [thing, None])
            check_error(self, BadSetting, "index", 0, gains, *TWO, [thing])
            check_error(self, BadSetting, "index", 1, gains, *TWO, [good[0], thing, None])
        # Only together they have the heaps.
        check_error(self, BadSetting, "index", 0, gains, *TWO, [comers((0, 12), (1, 0)), comers((0, 0))])
        # There may be needless pairs, and it does not matter how soon all would have to come.
        gains(*TWO, [comers((0, 6), (1, 0), (2, 0)), comers((0, 3), (1, 3), (2, 0), (3, 0))])
        gains(1, 2, [((1, 1), (6, 1))], (1, 2), (1, 1), [good[0]])


class ErrorsTest(unittest.TestCase):
    def test_in_order(self):
        for call in (settled, stretches, troubles):
            check_doors(self, call, TWO, DOORS)
        check_doors(self, gains, TWO + (settled(*TWO),), DOORS + [(5, BadSetting, "index", [None, 7, "ab", []])])

    def test_bad_wishes(self):
        good = [((20, 1), (6, 1)), ((24, 1), (6, 1))]
        for thing in [((24, 1), (1, 1)), ((23, 1), (1, 1)), ((48, 2), (1, 1)), ((25, 1), (0, 1)), None, ((25, 1),), 7]:
            for call in (settled, stretches, troubles):
                check_error(self, BadWishes, "index", 2, call, 1, 2, good + [thing, None], None, None)
        check_error(self, BadWishes, "index", 2, gains, 1, 2, good + good, None, None, None)
        stretches(1, 2, [((0, 1), (6, 1))], (1, 2), (1, 1))

    def test_by_names_and_new(self):
        named = dict(zip(("late", "early", "wishes", "length", "room"), TWO[::-1]))
        self.assertEqual(settled(**named), settled(*TWO))
        self.assertEqual(stretches(**named), stretches(*TWO))
        self.assertEqual(troubles(**named), troubles(*TWO))
        self.assertIsNone(gains(thing=settled(*TWO), **named))
        wishes = [[[20, 1], [6, 1]], [[24, 1], [6, 1]]]
        case = (1, 2, wishes, [1, 2], [1, 1])
        told = settled(*case)
        self.assertIsNone(gains(*case, told))
        told[0].clear()
        stretches(*case)[0][2].clear()
        troubles(*case).clear()
        self.assertEqual(wishes, [[[20, 1], [6, 1]], [[24, 1], [6, 1]]])
        self.assertEqual(settled(*case), settled(*TWO))
        self.assertEqual(stretches(*case), stretches(*TWO))


if __name__ == "__main__":
    unittest.main()
