"""9.1 to 9.4 and 9.7: phases, what is asked of them; and what 9.8 shows of it."""

import unittest
from fractions import Fraction

from quickbythen.comers import rate_at
from quickbythen.errors import BadComers, BadMany, BadMoment, BadPlace, BadRoad, NoWay
from quickbythen.nets import Net
from quickbythen.phases import label_at, label_curve, line_at, lost, phases, rests, waited
from tests.helpers import (N, NO_INTEGERS, NO_MOMENTS, ODD, Chance, check_doors, check_error, check_told_curve,
                           check_told_dict, comers, curve, frac, is_lowest, moments_in, pair, reached, rows_to, swapped,
                           unlowered, with_like_neighbours, worth)
from tests.test_tables import fractions_of, is_table_by_words
from tests.test_through import NO_WAY

FOUR = comers((0, 4))
BAD_COMERS = [None, 5, "", [], (), {}, True, [None], [((1, 1), (1, 1))], [((0, 1), (-1, 1))], [((0, 1), (True, 1))]]
BAD_MANY = NO_INTEGERS + [0, -1, -10 ** 20, (3,), "9"]


def least_lengths(net):
    return {place: min([sum([net.roads()[number][2] for number in row]) for row in rows_to(net, place)])
            for place in reached(net)}


class Looked:
    """The phases of a course, looked through by the words of 9.1 to 9.3."""

    def __init__(self, case, net, steps, many):
        self.case = case
        self.net = net
        self.steps = steps
        self.told = phases(net, steps, many)
        self.parts = [(frac(phase[0]),) + tuple([fractions_of(part) for part in phase[1:]]) for phase in self.told]
        self.ends = [self.end_of(*part[:3]) for part in self.parts]
        self.known = self.ends[-1]

    def reachable(self):
        return [(number, road) for number, road in enumerate(self.net.roads()) if road[0] in self.parts[0][1]]

    def rate(self, moment):
        return frac(rate_at(self.steps, pair(moment)))

    def end_of(self, moment, labels, slopes):
        ends = [frac(begin) for begin, _ in self.steps if frac(begin) > moment and self.changes(frac(begin))]
        for _, (one, other, length, _) in self.reachable():
            wait = labels[other] - labels[one] - length
            growth = slopes[other] - slopes[one]
            if wait > 0 > growth or wait < 0 < growth:
                ends.append(moment - wait / growth)
        return min(ends) if ends else None

    def changes(self, begin):
        rates = [frac(rate) for moment, rate in self.steps if frac(moment) < begin]
        return rates[-1] != self.rate(begin)

    def check(self):
        case = self.case
        case.assertIs(type(self.told), list)
        labels = {place: Fraction(length) for place, length in least_lengths(self.net).items()}
        moment = Fraction(0)
        for index, phase in enumerate(self.told):
            case.assertIs(type(phase), tuple)
            case.assertTrue(len(phase) == 4 and is_lowest(phase[0]))
            for part in phase[1:]:
                check_told_dict(case, part)
            case.assertEqual(self.parts[index][:2], (moment, labels))
            self.check_table(*self.parts[index])
            if self.ends[index] is not None:
                case.assertGreater(self.ends[index], moment)
                slopes = self.parts[index][2]
                labels = {place: labels[place] + slopes[place] * (self.ends[index] - moment) for place in labels}
                self.check_least(labels)
            moment = self.ends[index]
        case.assertTrue(all([end is not None for end in self.ends[:-1]]))

    def check_table(self, moment, labels, slopes, goes):
        waits = {number: labels[road[1]] - labels[road[0]] - road[2] for number, road in self.reachable()}
        quick = [number for number in waits if waits[number] >= 0]
        waiting = [number for number in waits if waits[number] > 0]
        self.case.assertTrue(is_table_by_words(self.net, (quick, waiting), self.rate(moment), slopes, goes))

    def check_least(self, labels):
        """Each label but the start's is the least of the begin's label, the wait and the length together."""
        for place in labels:
            ways = [labels[one] + max(0, labels[other] - labels[one] - length) + length
                    for _, (one, other, length, _) in self.reachable() if other == place]
            self.case.assertTrue(place == self.net.start() or min(ways) == labels[place])

    def labels_at(self, moment):
        part = [part for part in self.parts if part[0] <= moment][-1]
        return {place: part[1][place] + part[2][place] * (moment - part[0]) for place in part[1]}

    def wait_at(self, number, moment):
        one, other, length, _ = self.net.roads()[number]
        labels = self.labels_at(moment)
        return max(0, labels[other] - labels[one] - length)

    def moments(self):
        """Moments at, between and ahead of the ends, as far as all is known."""
        begins = [part[0] for part in self.parts]
        last = self.known if self.known is not None else begins[-1] + 5
        found = begins + [last] + [(one + other) / 2 for one, other in zip(begins, begins[1:] + [last])]
        return sorted(found) + ([last + Fraction(10 ** 20, 7)] if self.known is None else [])

    def sums(self, begin, end):
        """What 9.7 tells, from one moment to another one, part by part."""
        waiting = losing = Fraction(0)
        least = least_lengths(self.net)[self.net.end()]
        for part, last in zip(self.parts, self.ends):
            first = max(begin, part[0])
            last = end if last is None else min(end, last)
            if first < last:
                middle = (first + last) / 2
                for number in part[3]:
                    waiting += part[3][number] * self.wait_at(number, middle) * (last - first)
                late = self.labels_at(middle)[self.net.end()] - middle - least
                losing += self.rate(part[0]) * late * (last - first)
        return pair(waiting), pair(losing)


class PhasesTest(unittest.TestCase):
    def check_course(self, chance, net, steps, many):
        looked = Looked(self, net, steps, many)
        looked.check()
        same = (net, swapped(with_like_neighbours(unlowered(steps))))
        self.assertEqual(phases(*same, many), looked.told)
        self.assertEqual([type(phase[1]) for phase in phases(*same, many)], [dict] * len(looked.told))
        is_resting = looked.known is None
        self.assertEqual(rests(net, steps, many), len(looked.told) - 1 if is_resting else None)
        self.assertEqual(len(looked.told) if not is_resting else many, many)
        for fewer in {1, len(looked.told)}:
            self.assertEqual(phases(net, steps, fewer), looked.told[:fewer])
            self.assertEqual(rests(*same, fewer), fewer - 1 if is_resting and fewer == len(looked.told) else None)
        self.check_labels(looked, same, many)
        self.check_sums(chance, looked, many)
        return is_resting

    def check_labels(self, looked, same, many):
        net, steps = looked.net, looked.steps
        for moment in looked.moments():
            labels = looked.labels_at(moment)
            for place in labels:
                told = label_at(net, steps, place, pair(moment), many)
                self.assertEqual(told, pair(labels[place]))
                self.assertTrue(is_lowest(told))
            self.assertEqual(label_at(*same, place, unlowered(pair(moment)), many), told)
            for number, (_, _, _, room) in looked.reachable():
                told = line_at(net, steps, number, pair(moment), many)
                self.assertEqual(told, pair(room * looked.wait_at(number, moment)))
                self.assertTrue(is_lowest(told))
        for place in labels:
            told = label_curve(net, steps, place, many)
            self.assertEqual(label_curve(*same, place, many), told)
            if looked.known is not None:
                self.assertIsNone(told)
                self.assertIsNone(label_at(net, steps, place, pair(looked.known + Fraction(1, 10 ** 9)), many))
                continue
            check_told_curve(self, told)
            for moment in moments_in(told, ([(pair(part[0]), (0, 1)) for part in looked.parts], (0, 1))):
                self.assertEqual(worth(told, moment), looked.labels_at(moment)[place])
        if looked.known is not None:
            late = pair(looked.known + Fraction(1, 10 ** 9))
            self.assertIsNone(line_at(net, steps, looked.reachable()[0][0], late, many))

    def check_sums(self, chance, looked, many):
        net, steps = looked.net, looked.steps
        moments = looked.moments()
        for _ in range(4):
            begin, end = chance.random.choice(moments), chance.random.choice(moments)
            told = (waited(net, steps, pair(begin), pair(end), many), lost(net, steps, pair(begin), pair(end), many))
            self.assertEqual(told, looked.sums(begin, end))
            self.assertTrue(is_lowest(told[0]) and is_lowest(told[1]))
            self.assertTrue(begin < end or told == ((0, 1), (0, 1)))
        if looked.known is not None:
            late = pair(looked.known + 1)
            for begin in ((0, 1), late, pair(looked.known + 9)):
                self.assertIsNone(waited(net, steps, begin, late, many))
                self.assertIsNone(lost(net, steps, begin, late, many))
            self.assertEqual(waited(net, steps, late, pair(looked.known), many), (0, 1))

    def test_samples(self):
        chance = Chance(71)
        found = [0, 0]
        for _ in range(70):
            net = chance.net(5, 9)
            found[self.check_course(chance, net, chance.comers(4, 12), chance.random.choice([1, 2, 3, 60]))] += 1
        self.assertGreater(min(found), 15)

    def test_one_road(self):
        net = Net(2, [(0, 1, 3, 2)], 0, 1)
        self.assertEqual(phases(net, comers((0, 5), (4, 1)), 9), [
            ((0, 1), {0: (0, 1), 1: (3, 1)}, {0: (1, 1), 1: (5, 2)}, {0: (5, 1)}),
            ((4, 1), {0: (4, 1), 1: (13, 1)}, {0: (1, 1), 1: (1, 2)}, {0: (1, 1)}),
            ((16, 1), {0: (16, 1), 1: (19, 1)}, {0: (1, 1), 1: (1, 1)}, {0: (1, 1)})])

    def test_nobody_comes(self):
        for net, steps in ((N, comers((0, 0))), (Net(2, [(0, 1, 3, 2)], 0, 1), comers((0, 0)))):
            self.assertEqual(rests(net, steps, 1), 0)
            self.assertEqual(phases(net, steps, 5)[0][3], {})
            self.assertEqual(label_curve(net, steps, 1, 5)[1], (1, 1))
            self.assertEqual(waited(net, steps, (0, 1), (9, 1), 5), (0, 1))

    def test_other_rate_and_like_table_begin_a_phase(self):
        # Room for both rates, so nothing else changes.
        self.assertEqual([phase[0] for phase in phases(N, comers((0, 1), (2, 2), (5, 1)), 9)], [(0, 1), (2, 1), (5, 1)])
        self.assertEqual(len(phases(N, [((0, 1), (1, 1)), ((2, 2), (3, 3)), ((5, 1), (7, 7))], 9)), 1)

    def test_wait_that_ends_begins_a_phase_though_slopes_stay(self):
        # Nobody comes any more: the wait of road 0 shrinks to 0.
        net = Net(2, [(0, 1, 1, 1)], 0, 1)
        self.assertEqual([phase[0] for phase in phases(net, comers((0, 2), (1, 0)), 9)], [(0, 1), (1, 1), (2, 1)])

    def test_road_that_ceases_to_be_quick_begins_no_phase(self):
        # Both roads to 2 are quick at first, but 1 is come to three times as slowly as time goes by.
        net = Net(4, [(0, 1, 1, 1), (0, 2, 2, 9), (1, 2, 1, 9), (1, 3, 1, 9), (2, 3, 6, 1)], 0, 3)
        told = phases(net, comers((0, 3)), 2)
        self.assertEqual(told[0][1:], ({0: (0, 1), 1: (1, 1), 2: (2, 1), 3: (2, 1)},
                                       {0: (1, 1), 1: (3, 1), 2: (1, 1), 3: (3, 1)}, {0: (3, 1), 3: (3, 1)}))
        self.assertEqual(told[1][0], (3, 1))
        self.assertEqual(line_at(net, comers((0, 3)), 2, (3, 1), 2), (0, 1))

    def test_rings_and_places_that_cannot_be_come_to(self):
        net = Net(6, [(0, 1, 1, 2), (1, 2, 1, 1), (2, 1, 1, 1), (2, 3, 1, 3), (4, 3, 1, 9), (4, 5, 1, 9), (3, 0, 1, 1)], 0, 3)
        looked = Looked(self, net, comers((0, 5), (2, 1)), 60)
        looked.check()
        self.assertEqual(list(looked.told[0][1]), [0, 1, 2, 3])
        for place in (4, 5):
            check_error(self, BadPlace, "place", place, label_at, net, FOUR, place, (1, 1), 9)
        for road in (5, 6):
            check_error(self, BadRoad, "road", road, line_at, net, FOUR, road, (1, 1), 9)
        self.assertEqual(line_at(net, FOUR, 4, (1, 1), 9), (0, 1))

    def test_example(self):
        slopes = {0: (1, 1), 1: (1, 1), 2: (1, 1), 3: (2, 1)}
        self.assertEqual(phases(N, FOUR, 10), [
            ((0, 1), {0: (0, 1), 1: (1, 1), 2: (2, 1), 3: (3, 1)}, {0: (1, 1), 1: (2, 1), 2: (2, 1), 3: (2, 1)},
             {0: (4, 1), 2: (4, 1), 4: (4, 1)}),
            ((1, 1), {0: (1, 1), 1: (3, 1), 2: (4, 1), 3: (5, 1)}, slopes, {0: (2, 1), 1: (2, 1), 2: (2, 1), 4: (4, 1)}),
            ((3, 1), {0: (3, 1), 1: (5, 1), 2: (6, 1), 3: (9, 1)}, {**slopes, 3: (4, 3)},
             {0: (2, 1), 1: (2, 1), 2: (2, 3), 3: (4, 3), 4: (8, 3)})])
        self.assertEqual(rests(N, FOUR, 10), 2)
        self.assertEqual([rests(N, FOUR, many) for many in (1, 2, 3)], [None, None, 2])
        self.assertEqual(label_at(N, FOUR, 3, (9, 1), 10), (17, 1))
        self.assertEqual([line_at(N, FOUR, 0, (moment, 1), 10) for moment in (0, 1, 2, 99)], [(0, 1)] + [(2, 1)] * 3)
        self.assertEqual(line_at(N, FOUR, 4, (3, 1), 10), (4, 1))
        self.assertEqual(lost(N, FOUR, (0, 1), (3, 1), 10), (18, 1))
        self.assertEqual(waited(N, FOUR, (0, 1), (3, 1), 10), (14, 1))

    def test_ends_that_are_known(self):
        # By two phases all is known up to (3, 1), by one up to (1, 1).
        for many, end in ((1, 1), (2, 3)):
            self.assertEqual(label_at(N, FOUR, 3, (end, 1), many), label_at(N, FOUR, 3, (end, 1), 9))
            self.assertIsNone(label_at(N, FOUR, 3, (10 * end + 1, 10), many))
            self.assertIsNone(line_at(N, FOUR, 0, (10 * end + 1, 10), many))
            self.assertIsNotNone(line_at(N, FOUR, 0, (end, 1), many))
            self.assertIsNone(label_curve(N, FOUR, 0, many))
            self.assertIsNone(waited(N, FOUR, (9, 1), (8, 1), many))
            self.assertIsNone(lost(N, FOUR, (0, 1), (10 * end + 1, 10), many))
            self.assertIsNotNone(lost(N, FOUR, (9, 1), (end, 1), many))
        self.assertEqual(label_curve(N, FOUR, 3, 3), curve([(0, 3), (3, 9)], Fraction(4, 3)))

    def test_far_moments(self):
        far = Fraction(10 ** 40 + 1, 10 ** 12 - 1)
        labels = Looked(self, N, FOUR, 9).labels_at(far)
        self.assertEqual(label_at(N, FOUR, 3, pair(far), 9), pair(labels[3]))
        self.assertEqual(label_at(N, FOUR, 3, (10 ** 40, 1), 3), pair(9 + (10 ** 40 - 3) * Fraction(4, 3)))
        self.assertEqual(waited(N, FOUR, (3, 1), pair(far), 9), Looked(self, N, FOUR, 9).sums(Fraction(3), far)[0])

    def test_many_tables(self):
        """Inputs that took longest: each table looked through, labels from phase to phase, and what it must be."""
        steps = comers((0, 24), (12, 9))
        first = Net(6, [(1, 3, 3, 6), (1, 4, 1, 8), (1, 4, 3, 6), (2, 0, 2, 7), (3, 2, 3, 7), (3, 5, 1, 2), (4, 0, 2, 6),
                        (4, 3, 2, 8), (5, 0, 1, 3)], 1, 0)
        second = Net(5, [(0, 1, 1, 2), (0, 1, 3, 1), (0, 3, 1, 3), (1, 3, 2, 1), (1, 3, 3, 3), (3, 4, 2, 1), (3, 4, 3, 1),
                         (4, 2, 1, 1), (4, 2, 2, 2)], 0, 2)
        for net, many in ((first, 10), (second, 7)):
            looked = Looked(self, net, steps, 30)
            looked.check()
            self.assertEqual(len(looked.told), many)
            self.assertIsNone(looked.known)
            self.assertEqual(phases(net, steps, 30), looked.told)
        self.assertEqual([phase[0] for phase in phases(first, steps, 30)],
                         [(0, 1), (2, 3), (6, 5), (13, 6), (41, 10), (25, 6), (12, 1), (490, 33), (3374, 165), (115, 4)])
        self.assertEqual([phase[0] for phase in phases(second, steps, 30)],
                         [(0, 1), (1, 16), (7, 48), (2, 7), (13, 21), (129, 133), (12, 1)])

    def test_within_limits(self):
        chance = Chance(72)
        for _ in range(12):
            roads = [(*chance.random.sample(range(8), 2), chance.number(1, 20), chance.number(1, 60)) for _ in range(10)]
            net = Net(8, sorted(set(roads)), roads[0][0], roads[1][1] if roads[1][1] != roads[0][0] else roads[0][1])
            steps = comers(*[(Fraction(k * k * 9, 6), chance.fraction(0, 200)) for k in range(12)])
            if net.end() in reached(net):
                looked = Looked(self, net, steps, 60)
                looked.check()
                self.check_sums(chance, looked, 60)


class ErrorsTest(unittest.TestCase):
    def test_in_order(self):
        places, roads = NO_INTEGERS + [-1, 4, (0,)], NO_INTEGERS + [-1, 5, 10 ** 20]
        comes, many = (1, BadComers, "index", BAD_COMERS), (BadMany, "many", BAD_MANY)
        moment = (BadMoment, "thing", NO_MOMENTS)
        check_doors(self, phases, (N, FOUR, 2), [comes, (2, *many)])
        check_doors(self, rests, (N, FOUR, 2), [comes, (2, *many)])
        check_doors(self, label_at, (N, FOUR, 3, (1, 1), 2), [
            comes, (2, BadPlace, "place", places), (3, *moment), (4, *many)])
        check_doors(self, label_curve, (N, FOUR, 3, 2), [comes, (2, BadPlace, "place", places), (3, *many)])
        check_doors(self, line_at, (N, FOUR, 4, (1, 1), 2), [
            comes, (2, BadRoad, "road", roads), (3, *moment), (4, *many)])
        for call in (waited, lost):
            check_doors(self, call, (N, FOUR, (0, 1), (1, 1), 2), [comes, (2, *moment), (3, *moment), (4, *many)])

    def test_index(self):
        steps = FOUR + [((2, 1), (1, 1)), ((2, 1), (1, 1))]
        for call, rest in ((phases, (0,)), (rests, (0,)), (label_at, (None, None, 0)), (label_curve, (None, 0)),
                           (line_at, (None, None, 0)), (waited, (None, None, 0)), (lost, (None, None, 0))):
            check_error(self, BadComers, "index", 2, call, N, steps, *rest)

    def test_no_way(self):
        for call, good, bad in ((phases, (1,), (0,)), (rests, (1,), (0,)), (label_at, (1, (0, 1), 1), (1, (0, 1), 0)),
                                (label_curve, (1, 1), (1, 0)), (line_at, (0, (0, 1), 1), (0, (0, 1), 0)),
                                (waited, ((0, 1), (0, 1), 1), ((0, 1), (0, 1), 0)),
                                (lost, ((0, 1), (0, 1), 1), ((0, 1), (0, 1), 0))):
            for steps in (FOUR, comers((0, 0))):
                check_error(self, NoWay, "args", (), call, NO_WAY, steps, *good)
                check_error(self, BadMany, "many", 0, call, NO_WAY, steps, *bad)
        check_error(self, BadPlace, "place", 3, label_at, NO_WAY, FOUR, 3, (0, 1), 1)
        check_error(self, BadRoad, "road", 2, line_at, NO_WAY, FOUR, 2, (0, 1), 1)

    def test_odd_comers(self):
        for thing in ODD:
            check_error(self, BadComers, "index", 0, phases, N, thing, 1)

    def test_by_names(self):
        self.assertEqual(len(phases(many=10, comers=((((0, 5), [8, 2]),)), net=N)), 3)
        self.assertEqual(rests(many=10, comers=FOUR, net=N), 2)
        self.assertEqual(label_at(many=10, moment=[18, 2], place=3, comers=FOUR, net=N), (17, 1))
        self.assertEqual(label_curve(many=3, place=0, comers=FOUR, net=N), curve([(0, 0)], 1))
        self.assertEqual(line_at(many=10, moment=(3, 1), road=4, comers=FOUR, net=N), (4, 1))
        self.assertEqual(waited(many=10, end=(6, 2), begin=(0, 7), comers=FOUR, net=N), (14, 1))
        self.assertEqual(lost(many=10, end=(6, 2), begin=(0, 7), comers=FOUR, net=N), (18, 1))

    def test_told_is_new(self):
        told = phases(N, FOUR, 10)
        kept = phases(N, FOUR, 10)
        for phase in told:
            for part in phase[1:]:
                part.clear()
        told.clear()
        label_curve(N, FOUR, 3, 9)[0].clear()
        self.assertEqual(phases(N, FOUR, 10), kept)
        parts = [part for phase in kept for part in phase[1:]]
        self.assertEqual(len({id(part) for part in parts}), len(parts))

    def test_passed_stays(self):
        steps = [[[0, 1], [8, 2]]]
        phases(N, steps, 3)
        waited(N, steps, [0, 1], [1, 1], 3)
        self.assertEqual(steps, [[[0, 1], [8, 2]]])


if __name__ == "__main__":
    unittest.main()
