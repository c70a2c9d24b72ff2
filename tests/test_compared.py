"""11.1, 11.2 and 11.6: two courses beside one another; and what 11.7 shows of them."""

import unittest
from fractions import Fraction

from quickbythen.bends import tidied
from quickbythen.compared import compared, first_later, for_ever, known_until, same_until, saved, stretches_of
from quickbythen.errors import BadComers, BadMany, BadMoment, NoWay
from quickbythen.nets import Net
from quickbythen.phases import label_at, phases, rests
from tests.helpers import (N, NO_MOMENTS, Chance, check_doors, check_error, comers, curve, frac, heap, is_lowest, pair,
                           swapped, unlowered, with_like_neighbours)
from tests.test_cuts import M
from tests.test_phases import BAD_COMERS, BAD_MANY, FOUR
from tests.test_through import NO_WAY

L = Net(4, [(0, 1, 1, 1), (0, 2, 4, 10), (1, 3, 4, 10), (2, 3, 1, 1)], 0, 3)
TWO = comers((0, 2))


def late(net, steps, moment, many):
    return frac(label_at(net, steps, net.end(), pair(moment), many))


def changed(chance, net):
    """A net with another length, another room, or a road more or less."""
    roads = list(net.roads())
    at = chance.number(0, len(roads) - 1)
    one, other, length, room = roads[at]
    turn = chance.number(0, 3)
    if turn == 0:
        roads[at] = (one, other, length + chance.number(1, 2), room)
    elif turn == 1:
        roads[at] = (one, other, length, room + chance.number(1, 2))
    elif turn == 2:
        roads.append((*chance.random.sample(range(net.places()), 2), chance.number(1, 4), chance.number(1, 4)))
    return Net(net.places(), sorted(set(roads)), net.start(), net.end())


class ComparedTest(unittest.TestCase):
    def known(self, net, steps, many):
        """By what section 9 tells: None if the course rests."""
        told = known_until(net, steps, many)
        self.assertEqual(known_until(net, swapped(with_like_neighbours(unlowered(steps))), many), told)
        self.assertEqual(told is None, rests(net, steps, many) is not None)
        if told is None:
            return None
        self.assertTrue(is_lowest(told))
        self.assertEqual(phases(net, steps, many + 1)[many][0], told)
        return frac(told)

    def check_pair(self, one, steps, other, others, many):
        ends = [end for end in (self.known(one, steps, many), self.known(other, others, many)) if end is not None]
        told = compared(one, steps, other, others, many)
        self.assertIs(type(told), list)
        self.assertEqual(compared(one, swapped(unlowered(steps)), other, with_like_neighbours(others), many), told)
        self.assertEqual(told[0][0], (0, 1))
        self.assertEqual(told[-1][1], pair(min(ends)) if ends else None)
        for stretch in told:
            self.assertTrue(type(stretch) is tuple and is_lowest(stretch[0]))
            self.check_stretch(stretch, one, steps, other, others, many)
        for (_, end, word), (begin, _, following) in zip(told, told[1:]):
            self.assertEqual(end, begin)
            # As long as can be: two that have one word are parted by a moment at which both are alike.
            if word == following:
                self.assertNotEqual(word, "alike")
                self.assertEqual(late(one, steps, frac(begin), many), late(other, others, frac(begin), many))
        later = [begin for begin, _, word in told if word == "later"]
        self.assertEqual(first_later(one, steps, other, others, many), later[0] if later else None)
        return told

    def check_stretch(self, stretch, one, steps, other, others, many):
        begin, end, word = stretch
        first = frac(begin)
        last = first + 50 if end is None else frac(end)
        self.assertLess(first, last)
        for part in (Fraction(1, 10 ** 6), Fraction(1, 7), Fraction(1, 2), Fraction(6, 7), 1 - Fraction(1, 10 ** 6)):
            moment = first + (last - first) * part
            gap = late(other, others, moment, many) - late(one, steps, moment, many)
            self.assertEqual(word, "alike" if gap == 0 else "later" if gap > 0 else "earlier")

    def test_samples(self):
        chance = Chance(111)
        words = {}
        for _ in range(60):
            one = chance.net(5, 8)
            other = changed(chance, one) if chance.number(0, 3) else chance.net(5, 8)
            steps = chance.comers(3, 10)
            others = steps if chance.number(0, 2) else chance.comers(3, 10)
            if self.has_way(other):
                for many in (1, 3, 60):
                    for _, _, word in self.check_pair(one, steps, other, others, many):
                        words[word] = words.get(word, 0) + 1
        self.assertGreater(min(words["earlier"], words["alike"], words["later"]), 20)

    def has_way(self, net):
        try:
            phases(net, FOUR, 1)
        except NoWay:
            return False
        return True

    def test_both_ends(self):
        # M's phases end at 2 and 4, L rests at once.
        self.assertIsNone(known_until(L, TWO, 1))
        self.assertEqual([known_until(M, TWO, many) for many in (1, 2, 3)], [(2, 1), (4, 1), None])
        self.assertEqual(compared(L, TWO, M, TWO, 1), [((0, 1), (2, 1), "earlier")])
        self.assertEqual(compared(M, TWO, L, TWO, 1), [((0, 1), (2, 1), "later")])
        self.assertEqual(compared(L, TWO, M, TWO, 2), [((0, 1), (2, 1), "earlier"), ((2, 1), (4, 1), "later")])
        # Of two known ends the lesser one.
        self.assertEqual(compared(M, TWO, N, FOUR, 1)[-1][1], (1, 1))
        self.assertEqual(compared(N, FOUR, M, TWO, 1)[-1][1], (1, 1))
        self.assertIsNone(first_later(L, TWO, M, TWO, 1))
        self.assertEqual(first_later(M, TWO, L, TWO, 1), (0, 1))

    def test_alike(self):
        for many in (1, 2, 9):
            end = known_until(M, TWO, many)
            self.assertEqual(compared(M, TWO, M, TWO, many), [((0, 1), end, "alike")])
            self.assertIsNone(first_later(M, TWO, M, TWO, many))
        self.assertEqual(for_ever(M, TWO, M, TWO, 9), ((4, 1), (0, 1), (0, 1)))

    def test_alike_at_one_moment(self):
        # By one each takes three beats; by other one beat and a line, of two beats at (2, 1) only.
        one, other, steps = Net(2, [(0, 1, 3, 9)], 0, 1), Net(2, [(0, 1, 1, 1)], 0, 1), comers((0, 2), (2, 0))
        self.assertEqual(self.check_pair(one, steps, other, steps, 9),
                         [((0, 1), (2, 1), "earlier"), ((2, 1), None, "earlier")])
        self.assertEqual(self.check_pair(other, steps, one, steps, 9),
                         [((0, 1), (2, 1), "later"), ((2, 1), None, "later")])
        self.assertIsNone(first_later(one, steps, other, steps, 9))

    def test_alike_for_a_while(self):
        one, other = Net(2, [(0, 1, 3, 9)], 0, 1), Net(2, [(0, 1, 1, 1)], 0, 1)
        steps = comers((0, 2), (2, 1), (5, 3), (6, 0))
        self.assertEqual(self.check_pair(one, steps, other, steps, 9),
                         [((0, 1), (2, 1), "earlier"), ((2, 1), (5, 1), "alike"), ((5, 1), (8, 1), "later"),
                          ((8, 1), None, "earlier")])
        self.assertEqual(first_later(one, steps, other, steps, 9), (5, 1))

    def test_stretches_of_curves(self):
        for corners, slope, until, told in (
                ([(0, 0)], 0, None, [(0, None, "alike")]), ([(0, 0)], 1, 3, [(0, 3, "later")]),
                ([(0, 1), (1, 0)], 0, None, [(0, 1, "later"), (1, None, "alike")]),
                ([(0, 1), (1, 0), (2, 1)], 0, 5, [(0, 1, "later"), (1, 5, "later")]),
                ([(0, 1), (1, 0), (2, 1)], 0, 1, [(0, 1, "later")]),
                ([(0, -1), (1, -3), (2, -1)], 1, 9, [(0, 3, "earlier"), (3, 9, "later")]),
                ([(0, -1), (1, -3), (2, -1)], 1, 3, [(0, 3, "earlier")]),
                ([(0, 0), (1, 0), (2, -2)], 4, None, [(0, 1, "alike"), (1, Fraction(5, 2), "earlier"),
                                                      (Fraction(5, 2), None, "later")])):
            wanted = [(pair(begin), None if end is None else pair(end), word) for begin, end, word in told]
            gap = tidied(*curve(corners, slope))
            self.assertEqual(stretches_of(gap, None if until is None else pair(until)), wanted)

    def test_example(self):
        self.assertEqual(compared(L, TWO, M, TWO, 9), [((0, 1), (2, 1), "earlier"), ((2, 1), None, "later")])
        self.assertEqual(first_later(L, TWO, M, TWO, 9), (2, 1))
        self.assertEqual(for_ever(L, TWO, M, TWO, 9), ((4, 1), (2, 1), (0, 1)))
        self.assertEqual([saved(L, M, TWO, (moment, 1), 9) for moment in (0, 2, 4, 6)],
                         [(0, 1), (4, 1), (0, 1), (-8, 1)])
        self.assertEqual([phase[0] for phase in phases(M, TWO, 9)], [(0, 1), (2, 1), (4, 1)])

    def test_far_moments(self):
        self.assertEqual(saved(L, M, TWO, (10 ** 40, 1), 9), (-4 * (10 ** 40 - 4), 1))


class SavedTest(unittest.TestCase):
    def check_saved(self, one, other, steps, many):
        ends = [frac(end) for end in (known_until(one, steps, many), known_until(other, steps, many)) if end is not None]
        begins = {frac(phase[0]) for net in (one, other) for phase in phases(net, steps, many)}
        last = min(ends) if ends else max(begins) + 7
        begins = sorted([moment for moment in begins if moment < last] + [last])
        beats = Fraction(0)
        for first, end in zip(begins, begins[1:]):
            for moment, part in ((end, end - first), ((2 * first + end) / 3, (end - first) / 3)):
                middle = first + part / 2
                rate = (heap(steps, end) - heap(steps, first)) / (end - first)
                gain = late(one, steps, middle, many) - late(other, steps, middle, many)
                told = saved(one, other, steps, pair(first + part), many)
                self.assertTrue(is_lowest(told))
                self.assertEqual(frac(told), beats + rate * gain * part)
            beats = frac(saved(one, other, steps, pair(end), many))
        self.assertEqual(saved(one, other, swapped(unlowered(steps)), unlowered(pair(last)), many), pair(beats))
        for part in (Fraction(1, 10 ** 9), 5):
            told = saved(one, other, steps, pair(last + part), many)
            self.assertEqual(told is None, bool(ends))

    def test_samples(self):
        chance = Chance(112)
        for _ in range(40):
            one = chance.net(5, 8)
            steps = chance.comers(3, 10)
            for other in (changed(chance, one), one):
                for many in (1, 2, 60):
                    try:
                        self.check_saved(one, other, steps, many)
                    except NoWay:
                        check_error(self, NoWay, "args", (), saved, one, other, steps, (0, 1), many)

    def test_known_to_one_only(self):
        self.assertEqual(saved(L, M, TWO, (2, 1), 1), (4, 1))
        self.assertIsNone(saved(L, M, TWO, (21, 10), 1))
        self.assertIsNone(saved(M, L, TWO, (21, 10), 1))
        self.assertEqual(saved(M, L, TWO, (2, 1), 1), (-4, 1))
        self.assertEqual(saved(M, M, TWO, (2, 1), 1), (0, 1))


class ForEverTest(unittest.TestCase):
    def check_for_ever(self, one, steps, other, others, many):
        told = for_ever(one, steps, other, others, many)
        self.assertEqual(for_ever(one, swapped(steps), other, unlowered(others), many), told)
        numbers = (rests(one, steps, many), rests(other, others, many))
        self.assertEqual(told is None, None in numbers)
        if told is None:
            return 0
        self.assertIs(type(told), tuple)
        self.assertTrue(all([is_lowest(part) for part in told]))
        moment, gap, growth = [frac(part) for part in told]
        begins = [frac(phases(net, rows, many)[number][0]) for net, rows, number in
                  ((one, steps, numbers[0]), (other, others, numbers[1]))]
        self.assertEqual(moment, max(begins))
        for beats in (0, 1, Fraction(100, 7)):
            more = late(other, others, moment + beats, many) - late(one, steps, moment + beats, many)
            self.assertEqual(more, gap + growth * beats)
        return 1

    def test_samples(self):
        chance = Chance(113)
        found = [0, 0]
        for _ in range(50):
            one, other = chance.net(5, 8), chance.net(5, 8)
            for many in (2, 60):
                found[self.check_for_ever(one, chance.comers(3, 10), other, chance.comers(3, 10), many)] += 1
        self.assertGreater(min(found), 15)

    def test_growth_hangs_on_last_rates_alone(self):
        for steps in (comers((0, 4)), comers((0, 99), (3, 4)), comers((0, 0), (1, 7), (3, 4))):
            for others in (comers((0, 3)), comers((0, 50), (1, 3))):
                self.assertEqual(for_ever(N, steps, M, others, 60)[2], (1, 6))

    def test_one_of_both(self):
        self.assertIsNone(for_ever(L, TWO, M, TWO, 2))
        self.assertIsNone(for_ever(M, TWO, L, TWO, 2))
        self.assertIsNotNone(for_ever(M, TWO, L, TWO, 3))


class SameUntilTest(unittest.TestCase):
    def test_by_hand(self):
        one = comers((0, 4), (2, 1), (5, 0))
        for other, moment in ((one, None), (comers((0, 3)), 0), (comers((0, 4)), 2), (comers((0, 4), (2, 1)), 5),
                              (comers((0, 4), (1, 3), (2, 1), (5, 0)), 1), (comers((0, 4), (2, 1), (6, 0)), 5),
                              (comers((0, 4), (2, 1), (4, 0)), 4), (comers((0, 4), (2, 1), (5, 0), (9, 1)), 9),
                              (comers((0, 4), (1, 4), (2, 1), (5, 0), (9, 0)), None)):
            wanted = None if moment is None else pair(moment)
            self.assertEqual(same_until(one, other), wanted)
            self.assertEqual(same_until(others=swapped(unlowered(one)), comers=unlowered(other)), wanted)

    def test_labels_ahead_of_a_change_are_the_same(self):
        chance = Chance(114)
        for _ in range(40):
            net, steps = chance.net(5, 8), chance.comers(3, 9)
            begin = frac(steps[-1][0]) + chance.number(1, 3)
            others = steps + [(pair(begin), pair(chance.fraction(0, 9)))]
            until = same_until(steps, others)
            self.assertIn(until, (None, pair(begin)))
            for moment in (begin, begin / 2, begin * Fraction(2, 3)):
                for place in phases(net, steps, 1)[0][1]:
                    self.assertEqual(label_at(net, steps, place, pair(moment), 60),
                                     label_at(net, others, place, pair(moment), 60))

    def test_errors(self):
        check_doors(self, same_until, (FOUR, TWO), [(0, BadComers, "index", BAD_COMERS), (1, BadComers, "index", BAD_COMERS)])
        check_error(self, BadComers, "index", 1, same_until, FOUR, FOUR + FOUR)


class ErrorsTest(unittest.TestCase):
    def test_in_order(self):
        comes, many = (BadComers, "index", BAD_COMERS), (BadMany, "many", BAD_MANY)
        check_doors(self, known_until, (N, FOUR, 2), [(1, *comes), (2, *many)])
        for call in (compared, first_later, for_ever):
            check_doors(self, call, (L, TWO, M, TWO, 2), [(1, *comes), (3, *comes), (4, *many)])
            check_error(self, BadComers, "index", 1, call, L, TWO, M, FOUR + FOUR, None)
        check_doors(self, saved, (L, M, TWO, (0, 1), 2), [(2, *comes), (3, BadMoment, "thing", NO_MOMENTS), (4, *many)])

    def test_no_way(self):
        check_error(self, NoWay, "args", (), known_until, NO_WAY, FOUR, 1)
        check_error(self, BadMany, "many", 0, known_until, NO_WAY, FOUR, 0)
        for one, other in ((NO_WAY, M), (M, NO_WAY), (NO_WAY, NO_WAY)):
            for call in (compared, first_later, for_ever):
                check_error(self, NoWay, "args", (), call, one, TWO, other, TWO, 1)
                check_error(self, BadMany, "many", 0, call, one, TWO, other, TWO, 0)
            check_error(self, NoWay, "args", (), saved, one, other, TWO, (1, 1), 1)
            check_error(self, BadMany, "many", False, saved, one, other, TWO, (1, 1), False)
            check_error(self, BadMoment, "thing", None, saved, one, other, TWO, None, 0)

    def test_by_names_and_new(self):
        self.assertEqual(known_until(many=1, comers=TWO, net=M), (2, 1))
        named = {"one": L, "comers": TWO, "other": M, "others": TWO, "many": 9}
        self.assertEqual(compared(**named), compared(L, TWO, M, TWO, 9))
        self.assertEqual(first_later(**named), (2, 1))
        self.assertEqual(for_ever(**named)[0], (4, 1))
        self.assertEqual(saved(many=9, moment=[4, 2], comers=TWO, other=M, one=L), (4, 1))
        compared(**named).clear()
        self.assertEqual(len(compared(**named)), 2)


if __name__ == "__main__":
    unittest.main()
