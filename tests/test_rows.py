"""5.5 rows, 5.6 letters, and what 5.10 shows of them."""

import itertools
import unittest

from quickbythen.curves import worth_at
from quickbythen.errors import BadComers, BadRoad
from quickbythen.madecurves import added, behind, comers_of, curve_of
from quickbythen.oneroad import came_out, line_on, when_out
from quickbythen.refusals import BadRow, BadStreams
from quickbythen.rows import letters_out, parting_rate, row_form, row_lines, row_out, seen_alike, together
from tests.helpers import (ODD, ZERO_CURVE, Chance, check_error, check_told_comers, check_told_curve, comers, curve,
                           heap, is_lowest, moments_in, swapped, unlowered, with_like_neighbours)
from tests.test_oneroad import NO_LANES

C = comers((0, 5), (2, 1), (5, 0))
NO_ROWS = [thing for thing in ODD if thing not in ([()], [[]])] + [
    [()], [[]], (), [], [(2, 3), (0, 1)], [(2, 3), (1, True)], [(2, 3), None], {0: (2, 3)}, [(2, 3), (1, 2, 3)], (2, 3)]


def row_of(chance, many=4):
    return [chance.lane(4, 5) for _ in range(chance.number(1, many))]


def seen_of(row, steps):
    return row_out(row, steps), [line for line in row_lines(row, steps) if line != ZERO_CURVE]


class RowsTest(unittest.TestCase):
    def test_road_by_road(self):
        chance = Chance(28)
        for _ in range(80):
            row, steps = row_of(chance), chance.comers()
            lines, coming = [], steps
            for road in row:
                lines.append(line_on(road, coming))
                coming = comers_of(came_out(road, coming))
            self.assertEqual(row_lines(row, steps), lines)
            out = row_out(row, steps)
            check_told_curve(self, out)
            self.assertEqual(out, curve_of(coming))
            # As of one road with the sum of the lengths and the least room.
            alone = (sum([road[0] for road in row]), min([road[1] for road in row]))
            self.assertEqual(out, came_out(alone, steps))
            for same in (swapped(steps), unlowered(steps), with_like_neighbours(steps)):
                self.assertEqual(row_out(swapped(row), same), out)
                self.assertEqual(row_lines(swapped(row), same), lines)
            self.assertIs(type(row_lines(row, steps)), list)

    def test_by_names(self):
        row = [(1, 3), (2, 1)]
        self.assertEqual(row_out(comers=C, row=row), row_out(row, C))
        self.assertEqual(row_lines(comers=C, row=row), row_lines(row, C))
        self.assertEqual(row_form(row=row), [(0, 3), (1, 1)])
        self.assertTrue(seen_alike(other=row, one=row))
        self.assertIsNone(parting_rate(other=row, one=row))

    def test_form(self):
        self.assertEqual(row_form([(2, 3), (1, 5), (1, 2)]), [(0, 3), (3, 2)])
        self.assertEqual(row_form([(1, 3), (2, 4), (1, 2)]), [(0, 3), (3, 2)])
        self.assertEqual(row_form([(1, 3), (1, 2), (2, 2)]), [(0, 3), (1, 2)])
        self.assertEqual(row_form([(7, 3)]), [(0, 3)])
        self.assertEqual(row_form([[7, 3], [1, 3], [1, 2], [1, 3], [5, 1]]), [(0, 3), (8, 2), (10, 1)])
        told = row_form([(1, 3), (1, 2)])
        self.assertIs(type(told), list)
        self.assertTrue(all([type(part) is tuple for part in told]))

    def test_seen_alike_example(self):
        self.assertTrue(seen_alike([(2, 3), (1, 5), (1, 2)], [(1, 3), (2, 4), (1, 2)]))
        self.assertFalse(seen_alike([(2, 3), (1, 5), (1, 2)], [(1, 3), (1, 2), (2, 2)]))
        self.assertFalse(seen_alike([(2, 3)], [(3, 3)]))
        self.assertTrue(seen_alike([(2, 3)], [(1, 3), [1, 3]]))
        self.assertFalse(seen_alike([(2, 3)], [(2, 4)]))
        self.assertFalse(seen_alike([(1, 3), (1, 2)], [(1, 4), (1, 2)]))

    def test_just_one(self):
        chance = Chance(29)
        alike = 0
        for _ in range(400):
            one, other = row_of(chance, 3), row_of(chance, 3)
            if chance.number(0, 1):
                other = [(length, chance.number(2, 3)) for length, _ in one][::-1]
                one = [(length, chance.number(2, 3)) for length, _ in one]
            is_alike = seen_alike(one, other)
            self.assertIs(type(is_alike), bool)
            rate = parting_rate(one, other)
            self.assertEqual(rate, parting_rate(swapped(one), swapped(other)))
            self.assertEqual(is_alike, rate is None)
            if is_alike:
                alike += 1
                for _ in range(4):
                    steps = chance.comers(4, 9)
                    self.assertEqual(seen_of(one, steps), seen_of(other, steps))
            else:
                self.assertTrue(is_lowest(rate))
                self.assertNotEqual(seen_of(one, [((0, 1), rate)]), seen_of(other, [((0, 1), rate)]))
        self.assertGreater(alike, 30)

    def test_all_small_rows(self):
        rows = [list(row) for many in (1, 2) for row in itertools.product([(1, 1), (1, 2), (2, 1), (2, 2)], repeat=many)]
        for one, other in itertools.product(rows, rows):
            rate = parting_rate(one, other)
            self.assertEqual(seen_alike(one, other), rate is None)
            steps = [((0, 1), rate)] if rate else comers((0, 9), (3, 1), (4, 6))
            self.assertEqual(seen_of(one, steps) == seen_of(other, steps), rate is None)

    def test_errors(self):
        for thing in NO_ROWS + [[lane] for lane in NO_LANES] + [[(1, 1), lane] for lane in NO_LANES]:
            for call in (row_out, row_lines):
                check_error(self, BadRow, "row", thing, call, thing, None)
            check_error(self, BadRow, "row", thing, row_form, thing)
            for call in (seen_alike, parting_rate):
                check_error(self, BadRow, "row", thing, call, thing, None)
                check_error(self, BadRow, "row", thing, call, [(1, 1)], thing)
        for call in (row_out, row_lines):
            check_error(self, BadComers, "index", 1, call, [(1, 1)], [((0, 1), (1, 1)), None])
            check_error(self, BadComers, "index", 0, call, [(1, 1)], [])


class LettersTest(unittest.TestCase):
    def test_example(self):
        streams = [comers((0, 4), (2, 0)), comers((0, 1), (5, 0))]
        self.assertEqual(together(streams), C)
        these, those = letters_out((2, 3), streams)
        self.assertEqual(worth_at(these, (16, 3)), (8, 1))
        self.assertEqual(worth_at(those, (16, 3)), (2, 1))
        self.assertEqual(worth_at(those, (6, 1)), (4, 1))

    def test_all(self):
        chance = Chance(30)
        for _ in range(120):
            road = chance.lane()
            streams = [chance.comers() for _ in range(chance.number(1, 4))]
            all_of = together(streams)
            check_told_comers(self, all_of)
            for moment in moments_in(curve_of(all_of), *[curve_of(steps) for steps in streams]):
                self.assertEqual(heap(all_of, moment), sum([heap(steps, moment) for steps in streams]))
            told = letters_out(road, streams)
            self.assertIs(type(told), list)
            self.assertEqual(len(told), len(streams))
            when = when_out(road, all_of)
            for one, steps in zip(told, streams):
                check_told_curve(self, one)
                self.assertEqual(behind(one, when), curve_of(steps))
            self.assertEqual(added(told), came_out(road, all_of))
            for same in (swapped(streams), unlowered(streams), [with_like_neighbours(steps) for steps in streams]):
                self.assertEqual(together(streams=same), all_of)
                self.assertEqual(letters_out(streams=same, road=list(road)), told)

    def test_one_kind_comes_while_the_other_stops(self):
        # Behind 1 nobody comes for two beats, while five still wait: who is out changes all the same.
        streams = [comers((0, 4), (1, 0)), comers((0, 2), (1, 0), (3, 1))]
        told = letters_out((1, 1), streams)
        self.assertEqual(told, [curve([(0, 0), (1, 0), (7, 4)], 0), curve([(0, 0), (1, 0), (7, 2)], 1)])

    def test_rates_that_make_up_for_one_another(self):
        self.assertEqual(together([comers((0, 4), (1, 2), (2, 2)), comers((0, 1), (1, 3), (4, 0))]),
                         comers((0, 5), (4, 2)))
        self.assertEqual(together([comers((0, 0)), comers((0, 0), (1, 0))]), comers((0, 0)))

    def test_errors(self):
        for thing in NO_LANES:
            check_error(self, BadRoad, "road", thing, letters_out, thing, None)
        for thing in (None, 5, "", {}, (), [], {0: C}, True, len):
            check_error(self, BadStreams, "index", 0, together, thing)
            check_error(self, BadStreams, "index", 0, letters_out, (1, 1), thing)
        for thing in ODD + [[((0, 1), (1, 1)), None]]:
            check_error(self, BadStreams, "index", 1, together, [C, thing, None])
            check_error(self, BadStreams, "index", 1, letters_out, (1, 1), [C, thing, None])
        check_error(self, BadStreams, "index", 0, together, C)


if __name__ == "__main__":
    unittest.main()
