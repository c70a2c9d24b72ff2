"""5.7 looked back, 5.8 stories, and what 5.10 shows of them."""

import itertools
import unittest
from fractions import Fraction

from quickbythen.comers import come_by
from quickbythen.curves import plain, worth_at
from quickbythen.errors import BadMoment, BadRoad
from quickbythen.lookedback import clash, comers_behind, comers_through, could_have_come, fitting_comers
from quickbythen.oneroad import came_out, line_on, when_out
from quickbythen.refusals import BadCurve, BadStories, NotOut, NotThrough
from tests.helpers import (NO_MOMENTS, ODD, ZERO_CURVE, Chance, check_error, check_told_comers, comers, curve, frac,
                           is_lowest, moments_in, pair, slope_behind, swapped, unlowered, with_needless, worth)
from tests.test_curves import NO_CURVES
from tests.test_oneroad import NO_LANES

C = comers((0, 5), (2, 1), (5, 0))
ROAD = (2, 3)


def out_fault(road, out):
    """The moment of NotOut, by the words of 5.7, None if there is none."""
    length, room = road
    if worth(out, Fraction(0)) != 0:
        return Fraction(0)
    for corner in out[0]:
        moment = frac(corner[0])
        slope = slope_behind(out, moment)
        if slope < 0 or slope > room or (moment < length and slope != 0):
            return moment
    return None


class BehindTest(unittest.TestCase):
    def test_example(self):
        out = came_out(ROAD, C)
        self.assertEqual(comers_behind(ROAD, out), comers((0, 3), (4, 1), (5, 0)))
        self.assertEqual(could_have_come(ROAD, out, (1, 1)), ((3, 1), (12, 1)))

    def test_just_one(self):
        chance = Chance(31)
        found = [0, 0]
        for _ in range(300):
            road = chance.lane(3, 4)
            out = came_out(road, chance.comers())
            if chance.number(0, 1):
                out = chance.rising(4) if chance.number(0, 3) else chance.curve(4)
            fault = out_fault(road, out)
            found[fault is None] += 1
            for same in (out, swapped(out), unlowered(out), with_needless(out)):
                if fault is not None:
                    check_error(self, NotOut, "moment", pair(fault), comers_behind, road, same)
                    check_error(self, NotOut, "moment", pair(fault), could_have_come, road, same, (1, 1))
                    continue
                told = comers_behind(list(road), same)
                check_told_comers(self, told)
                self.assertEqual(came_out(road, told), plain(out))
                self.assertEqual(line_on(road, told), ZERO_CURVE)
        self.assertGreater(min(found), 80)

    def test_not_out_by_hand(self):
        for out, moment in ((curve([(0, 1)], 0), 0), (curve([(0, 0)], 1), 0), (curve([(0, 0), (1, 0)], 1), 1),
                            (curve([(0, 0), (1, 0), (Fraction(3, 2), 1)], 0), 1), (curve([(0, 0), (2, 0)], 4), 2),
                            (curve([(0, 0), (2, 0), (3, 3)], -1), 3), (curve([(0, -1), (1, 0)], 0), 0),
                            (curve([(0, 0), (2, 0), (3, 1), (4, 5)], 0), 3), (curve([(0, 0)], -1), 0),
                            (curve([(0, 0), (3, 0), (4, 2), (5, 1)], 9), 4)):
            check_error(self, NotOut, "moment", pair(moment), comers_behind, ROAD, out)
            check_error(self, NotOut, "moment", pair(moment), could_have_come, ROAD, out, (0, 1))
        self.assertEqual(comers_behind(ROAD, curve([(0, 0), (2, 0)], 3)), comers((0, 3)))
        self.assertEqual(comers_behind(ROAD, ZERO_CURVE), comers((0, 0)))
        self.assertEqual(comers_behind(ROAD, curve([(0, 0), (5, 0)], 1)), comers((0, 0), (3, 1)))

    def check_could(self, road, out, moment):
        """That bounds are as 5.7 tells, and that comers come by them."""
        length, room = road
        then = moment + length
        least, greatest = could_have_come(road, out, pair(moment))
        self.assertEqual(least, pair(worth(out, then)))
        self.assertEqual(come_by(comers_behind(road, out), pair(moment)), least)
        begin = then
        is_full = slope_behind(out, then) == room and slope_behind(out, then - Fraction(1, 10 ** 9)) == room
        if not is_full:
            self.assertEqual(greatest, least)
            return
        ends = [frac(corner[0]) for corner in out[0] if frac(corner[0]) > then]
        begin = max([frac(corner[0]) for corner in out[0] if frac(corner[0]) < then])
        if not ends:
            self.assertIsNone(greatest)
            return
        many = worth(out, min(ends)) - worth(out, begin)
        self.assertEqual(greatest, pair(worth(out, min(ends))))
        # All who come out in this stretch come at its begin, by the moment.
        soon = [(frac(one), frac(rate)) for one, rate in comers_behind(road, out)]
        first = begin - length
        ahead = [step for step in soon if step[0] < first]
        behind_it = [step for step in soon if step[0] >= min(ends) - length]
        steps = comers(*(ahead + [(first, many / (moment - first)), (moment, 0)] + behind_it))
        if moment < min(ends) - length:
            self.assertEqual(came_out(road, steps), plain(out))
            self.assertEqual(come_by(steps, pair(moment)), greatest)

    def test_could_have_come(self):
        chance = Chance(32)
        for _ in range(120):
            road, steps = chance.lane(3, 4), chance.comers(4, 9)
            out = came_out(road, steps)
            corners = [frac(corner[0]) - road[0] for corner in out[0] if frac(corner[0]) >= road[0]]
            for moment in corners + [chance.fraction(0, 12) for _ in range(4)]:
                self.check_could(road, out, moment)
                least, greatest = could_have_come(road, out, pair(moment))
                came = frac(come_by(steps, pair(moment)))
                self.assertLessEqual(frac(least), came)
                if greatest is not None:
                    self.assertTrue(is_lowest(greatest))
                    self.assertGreaterEqual(frac(greatest), came)
                for same in (swapped(out), unlowered(out), with_needless(out)):
                    self.assertEqual(could_have_come(road, same, unlowered(pair(moment))), (least, greatest))

    def test_could_have_come_edges(self):
        out = curve([(0, 0), (2, 0), (4, 6), (6, 8), (7, 11), (8, 14), (9, 14)], 3)
        for moment, least, greatest in ((0, 0, 0), (Fraction(1, 9), Fraction(1, 3), 6), (2, 6, 6), (3, 7, 7), (4, 8, 8),
                                        (Fraction(9, 2), Fraction(19, 2), 14), (5, 11, 14), (6, 14, 14), (7, 14, 14),
                                        (8, 17, None), (100, 293, None)):
            told = None if greatest is None else pair(greatest)
            self.assertEqual(could_have_come(moment=pair(moment), out=out, road=ROAD), (pair(least), told))

    def test_errors(self):
        bad = curve([(0, 1)], 0)
        for thing in NO_LANES:
            check_error(self, BadRoad, "road", thing, comers_behind, thing, None)
            check_error(self, BadRoad, "road", thing, could_have_come, thing, None, None)
        for thing in NO_CURVES:
            check_error(self, BadCurve, "thing", thing, comers_behind, ROAD, thing)
            check_error(self, BadCurve, "thing", thing, could_have_come, ROAD, thing, None)
        for thing in NO_MOMENTS:
            check_error(self, BadMoment, "thing", thing, could_have_come, ROAD, bad, thing)
        check_error(self, NotOut, "moment", (0, 1), could_have_come, ROAD, bad, (1, 1))


class ThroughTest(unittest.TestCase):
    def through_fault(self, road, one):
        if worth(one, Fraction(0)) != road[0]:
            return Fraction(0)
        found = []
        for moment in moments_in(one):
            if slope_behind(one, moment) < 0 and any([frac(corner[0]) == moment for corner in one[0]]):
                found.append(moment)
        corners = [frac(corner[0]) for corner in one[0]]
        for moment in corners:
            gap, slope = worth(one, moment) - moment - road[0], slope_behind(one, moment) - 1
            if gap < 0 or (gap == 0 and slope < 0):
                found.append(moment)
            elif slope < 0:
                crossing = moment - gap / slope
                if all([crossing < other for other in corners if other > moment]):
                    found.append(crossing)
        return min(found) if found else None

    def test_just_one(self):
        chance = Chance(33)
        found = [0, 0]
        for _ in range(300):
            road = chance.lane(3, 4)
            one = when_out(road, chance.comers())
            if chance.number(0, 2) == 0:
                one = chance.rising(4, first=chance.number(road[0] - 1, road[0]) if chance.number(0, 3) == 0 else road[0])
            if chance.number(0, 4) == 0:
                one = (one[0] + [((60, 1), (chance.number(40, 90), 1))], one[1])
            fault = self.through_fault(road, one)
            found[fault is None] += 1
            for same in (one, swapped(one), unlowered(one), with_needless(one)):
                if fault is not None:
                    check_error(self, NotThrough, "moment", pair(fault), comers_through, list(road), same)
                    continue
                told = comers_through(list(road), same)
                check_told_comers(self, told)
                self.assertEqual(when_out(road, told), plain(one))
                self.assertEqual(told, comers_through(curve=one, road=road))
        self.assertGreater(min(found), 60)

    def test_by_hand(self):
        for one, moment in ((curve([(0, 1)], 1), 0), (curve([(0, 3)], 1), 0), (curve([(0, 2)], Fraction(1, 2)), 0),
                            (curve([(0, 2), (1, 3)], Fraction(9, 10)), 1), (curve([(0, 2), (1, 4)], 0), 2),
                            (curve([(0, 2), (1, 9), (2, 8)], 2), 1), (curve([(0, 2), (1, 4), (2, 4), (3, 1)], 5), 2),
                            (curve([(0, 2), (2, 12), (3, 12), (4, 11)], 0), 3), (curve([(0, 2)], -1), 0)):
            check_error(self, NotThrough, "moment", pair(moment), comers_through, ROAD, one)
        self.assertEqual(when_out(ROAD, comers_through(ROAD, curve([(0, 2)], 1))), curve([(0, 2)], 1))
        still = curve([(0, 2), (1, 5), (3, 5)], 1)
        self.assertEqual(when_out(ROAD, comers_through(ROAD, still)), still)

    def test_errors(self):
        for thing in NO_LANES:
            check_error(self, BadRoad, "road", thing, comers_through, thing, None)
        for thing in NO_CURVES:
            check_error(self, BadCurve, "thing", thing, comers_through, ROAD, thing)


def story(came, out):
    return (pair(came), pair(out))


class StoriesTest(unittest.TestCase):
    def first_clash(self, length, stories):
        """By the words of IT HOLDS in 5.8."""
        told = [(frac(came), frac(out)) for came, out in stories]
        for index, (came, out) in enumerate(told):
            if out < came + length or (came == 0 and out != length):
                return [index]
        for first, second in itertools.combinations(range(len(told)), 2):
            for one, other in ((told[first], told[second]), (told[second], told[first])):
                if one[0] <= other[0] and one[1] > other[1]:
                    return [first, second]
        return None

    def check_stories(self, road, stories):
        told, found = fitting_comers(road, stories), clash(road, stories)
        self.assertEqual(found, self.first_clash(road[0], stories))
        self.assertEqual(told is None, found is not None)
        for same in (swapped(stories), unlowered(stories), tuple(stories)):
            self.assertEqual(fitting_comers(list(road), same), told)
            self.assertEqual(clash(list(road), same), found)
        if told is None:
            self.assertIs(type(found), list)
            # No shorter list, and none ahead of it, is one that no comers fit.
            for many in (0, 1, 2):
                for indexes in itertools.combinations(range(len(stories)), many):
                    if (many, list(indexes)) < (len(found), found):
                        self.assertIsNotNone(fitting_comers(road, [stories[index] for index in indexes]))
            self.assertIsNone(fitting_comers(road, [stories[index] for index in found]))
            return
        check_told_comers(self, told)
        when = when_out(road, told)
        for came, out in stories:
            self.assertEqual(worth_at(when, came), pair(frac(out)))

    def test_example(self):
        self.assertEqual(clash(ROAD, [((1, 1), (5, 1)), ((2, 1), (9, 2))]), [0, 1])
        self.assertEqual(clash(ROAD, [((0, 1), (3, 1))]), [0])

    def test_edges(self):
        self.check_stories(ROAD, [])
        self.assertEqual(clash(ROAD, ()), None)
        for stories, found in (([story(0, 2)], None), ([story(0, 1)], [0]), ([story(3, 5), story(3, 5)], None),
                               ([story(3, 6), story(3, 5)], [0, 1]), ([story(3, 5), story(3, 6)], [0, 1]),
                               ([story(4, 6), story(3, 6)], None), ([story(4, 7), story(3, 6), story(3, 8)], [0, 2]),
                               ([story(3, 9), story(4, 8), story(5, 6)], [2]), ([story(9, 11), story(1, 12)], [0, 1]),
                               ([story(5, 9), story(1, 9), story(2, 9), story(5, 9)], None),
                               ([story(1, 5), story(2, 6), story(3, 7), story(4, 6), story(5, 7)], [2, 3])):
            self.check_stories(ROAD, stories)
            self.assertEqual(clash(stories=stories, road=ROAD), found)

    def test_just_one(self):
        chance = Chance(34)
        found = [0, 0]
        for _ in range(300):
            road = chance.lane(3, 3)
            stories = []
            for _ in range(chance.number(0, 5)):
                came = chance.fraction(0, 8, (1, 2))
                stories.append(story(came, came + road[0] + chance.fraction(0, 4, (1, 2))))
            if chance.number(0, 1):
                when = when_out(road, chance.comers())
                moments = [chance.fraction(0, 15) for _ in range(5)]
                stories = [(pair(moment), worth_at(when, pair(moment))) for moment in moments]
            self.check_stories(road, stories)
            found[clash(road, stories) is None] += 1
        self.assertGreater(min(found), 40)

    def test_order_of_stories_does_not_matter_to_comers(self):
        stories = [story(3, 6), story(1, 4), story(7, 20)]
        for others in itertools.permutations(stories):
            self.assertEqual(fitting_comers(stories=list(others), road=ROAD), fitting_comers(ROAD, stories))

    def test_errors(self):
        for call in (fitting_comers, clash):
            for thing in NO_LANES:
                check_error(self, BadRoad, "road", thing, call, thing, None)
            for thing in (None, 5, "", "ab", {}, {0: story(1, 5)}, True, len):
                check_error(self, BadStories, "index", 0, call, ROAD, thing)
            for thing in ODD + [(part, (9, 1)) for part in NO_MOMENTS] + [((0, 1), part) for part in NO_MOMENTS] + [
                    ((1, 1), (9, 1), (9, 1)), {0: (1, 1), 1: (9, 1)}]:
                check_error(self, BadStories, "index", 1, call, ROAD, [story(0, 1), thing, None])


if __name__ == "__main__":
    unittest.main()
