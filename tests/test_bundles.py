"""12.1 and what 12.4 tells of cut lanes: rows, bundles and lanes; and what 12.8 shows of them."""

import unittest
from fractions import Fraction

from quickbythen.bundles import as_road, cut_lanes, lanes_of, net_of, room_by
from quickbythen.nets import Net
from quickbythen.oneroad import came_out
from quickbythen.refusals import BadBundle, BadMost, BadNumber, BadRow
from quickbythen.rows import row_out
from tests.helpers import (NO_INTEGERS, NO_MOMENTS, ODD, Chance, check_doors, check_error, frac, is_lowest, pair, swapped,
                           unlowered)

B = [[(1, 2)], [(2, 3), (1, 2)]]
BAD_ROADS = [0, None, (1,), (1, 0), (0, 1), (1, 2, 3), (True, 1), (1, True), (1, -2), "12", {0: 1, 1: 2}, ((1, 1), 1), []]
BAD_ROWS = [thing for thing in ODD if thing != [[]]] + [[[]], [(1, 2), None], [(1, 2), (0, 1)], (1, 2)] + [
    [road] for road in BAD_ROADS]
BAD_BUNDLES = [None, 5, "", "ab", [], (), {}, {0: [(1, 1)]}, True, len] + [[row] for row in BAD_ROWS]
BAD_MOSTS = [thing for thing in NO_MOMENTS if thing is not None] + [(0, 1), (0, 9)]


def any_row(chance, roads=3, lengths=4, rooms=5):
    return [(chance.number(1, lengths), chance.number(1, rooms)) for _ in range(chance.number(1, roads))]


def any_bundle(chance, rows=4):
    return [any_row(chance) for _ in range(chance.number(1, rows))]


def room_by_words(bundle, number):
    return sum([min([room for _, room in row]) for row in bundle if sum([length for length, _ in row]) <= number])


class RowsTest(unittest.TestCase):
    def test_as_road(self):
        self.assertEqual(as_road([(2, 3), (1, 2)]), (3, 2))
        self.assertEqual(as_road([[4, 5]]), (4, 5))
        self.assertEqual(as_road(row=((1, 9), [2, 7], (3, 8))), (6, 7))
        self.assertIs(type(as_road([[4, 5]])), tuple)

    def test_bad_row(self):
        for row in BAD_ROWS:
            check_error(self, BadRow, "row", row, as_road, row)

    def test_each_drop_comes_out_as_of_one_road(self):
        chance = Chance(131)
        for _ in range(40):
            row, steps = any_row(chance, 4), chance.comers(4, 12)
            self.assertEqual(row_out(row, steps), came_out(as_road(row), steps))


class LanesTest(unittest.TestCase):
    def test_lanes(self):
        self.assertEqual(lanes_of(B), [(1, 2), (3, 2)])
        self.assertEqual(lanes_of([[(5, 1)], [(2, 3), (3, 4)], [(1, 9)], [(5, 7)]]), [(1, 9), (5, 11)])
        chance = Chance(132)
        for _ in range(100):
            bundle = any_bundle(chance, 6)
            told = lanes_of(bundle)
            self.assertEqual(lanes_of(swapped(bundle)), told)
            self.assertEqual(lanes_of(bundle[::-1]), told)
            self.assertTrue(type(told) is list and all([type(lane) is tuple for lane in told]))
            lengths = [length for length, _ in told]
            self.assertEqual(lengths, sorted({sum([length for length, _ in row]) for row in bundle}))
            for number in range(20):
                self.assertEqual(sum([room for length, room in told if length <= number]), room_by_words(bundle, number))
                self.assertEqual(room_by(bundle, number), room_by_words(bundle, number))
            self.assertEqual(net_of(bundle), Net(2, [(0, 1, length, room) for length, room in told], 0, 1))

    def test_room_by(self):
        self.assertEqual([room_by(B, number) for number in (0, 1, 2, 3, 10 ** 6)], [0, 2, 2, 4, 4])
        self.assertEqual(room_by(number=3, bundle=B), 4)

    def test_net_of(self):
        self.assertEqual(net_of(bundle=B).roads(), [(0, 1, 1, 2), (0, 1, 3, 2)])
        self.assertEqual((net_of(B).places(), net_of(B).start(), net_of(B).end()), (2, 0, 1))

    def test_new_and_kept(self):
        bundle = [[[1, 2]], [[2, 3], [1, 2]]]
        lanes_of(bundle).clear()
        cut_lanes(bundle, None).clear()
        self.assertEqual(bundle, [[[1, 2]], [[2, 3], [1, 2]]])
        net = net_of(bundle)
        bundle.append([(1, 1)])
        self.assertEqual(len(net.roads()), 2)
        self.assertEqual(lanes_of(bundle), [(1, 3), (3, 2)])

    def test_errors(self):
        for call in (lanes_of, net_of):
            check_doors(self, call, (B,), [(0, BadBundle, "index", BAD_BUNDLES)])
        check_doors(self, room_by, (B, 3), [(0, BadBundle, "index", BAD_BUNDLES)])
        check_doors(self, cut_lanes, (B, (1, 1)), [(0, BadBundle, "index", BAD_BUNDLES), (1, BadMost, "most", BAD_MOSTS)])
        for row in BAD_ROWS:
            for call, rest in ((lanes_of, ()), (net_of, ()), (room_by, (None,)), (cut_lanes, (0,))):
                check_error(self, BadBundle, "index", 2, call, B + [row, None], *rest)
        for number in NO_INTEGERS + [-1, -10 ** 6]:
            check_error(self, BadNumber, "number", number, room_by, B, number)


class CutLanesTest(unittest.TestCase):
    def test_by_hand(self):
        self.assertEqual(cut_lanes(B, (3, 1)), [(1, (2, 1)), (3, (1, 1))])
        self.assertEqual(cut_lanes(B, (4, 2)), [(1, (2, 1))])
        self.assertEqual(cut_lanes(B, (1, 2)), [(1, (1, 2))])
        self.assertEqual(cut_lanes(B, (4, 1)), [(1, (2, 1)), (3, (2, 1))])
        self.assertEqual(cut_lanes(B, (39, 10)), [(1, (2, 1)), (3, (19, 10))])
        for most in ((5, 1), (10 ** 9, 7), None):
            self.assertEqual(cut_lanes(most=most, bundle=B), [(1, (2, 1)), (3, (2, 1))])

    def test_samples(self):
        chance = Chance(133)
        for _ in range(100):
            bundle, most = any_bundle(chance), chance.fraction(0, 9) + Fraction(1, 60)
            told = cut_lanes(bundle, pair(most))
            self.assertEqual(cut_lanes(swapped(bundle), unlowered(pair(most))), told)
            for number in range(20):
                room = sum([frac(much) for length, much in told if length <= number])
                self.assertEqual(room, min(most, room_by_words(bundle, number)))
            self.assertTrue(all([is_lowest(much) and much[0] > 0 for _, much in told]))
            self.assertEqual([length for length, _ in told], [length for length, _ in lanes_of(bundle)][:len(told)])


if __name__ == "__main__":
    unittest.main()
