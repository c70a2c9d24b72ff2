"""15.1 to 15.5: packets played, quick choices, what is free behind them, nobody gains; and what 15.8 shows of them."""

import unittest

from quickbythen.errors import NoWay
from quickbythen.nets import Net
from quickbythen.packets import first_free, packet_gain, packet_labels, packets_played, quick_choice, quick_fault
from quickbythen.refusals import BadBeat, BadChoice, BadSending
from tests.helpers import (N, NO_INTEGERS, ODD, Chance, all_ways, check_doors, check_error, reached, rows_to, swapped)
from tests.test_through import NO_WAY

B = Net(2, [(0, 1, 1, 1), (0, 1, 3, 1)], 0, 1)
ROUND_END = Net(4, [(0, 1, 1, 2), (1, 2, 1, 1), (1, 3, 5, 1), (2, 3, 1, 1), (3, 0, 1, 1), (3, 2, 1, 9)], 0, 2)
BAD_SENDINGS = [None, 5, "", "ab", {}, {0: 1}, True, len] + [[thing] for thing in NO_INTEGERS + [-1, -7, [0], "0"]]
BAD_CHOICES = [None, 5, "", "ab", {}, True, len] + [[thing, [0, 3]] for thing in ODD if thing not in ([0, 3],)]


def play_by_words(net, sending, rows):
    """Beat by beat, as 15.1 tells it; rows are any roads one behind another, from the start on."""
    roads = net.roads()
    told = [[] for _ in rows]
    come = list(sending)
    beat = 0
    while any([len(told[index]) <= len(row) for index, row in enumerate(rows)]):
        for number, (_, _, length, room) in enumerate(roads):
            there = sorted([(come[index], index) for index, row in enumerate(rows)
                            if len(told[index]) < len(row) and row[len(told[index])] == number and come[index] <= beat])
            for _, index in there[:room]:
                told[index].append(beat)
                come[index] = beat + length
        for index, row in enumerate(rows):
            if len(told[index]) == len(row):
                told[index].append(come[index])
        beat += 1
    return told


def places_of(net, row):
    """The places to which a row of roads leads, behind the start."""
    return [net.roads()[number][1] for number in row]


def label_by_words(net, sending, ahead, beat, place):
    """The earliest beat of a packet at a place, by any roads, if besides it just those ahead go their ways."""
    return min([play_by_words(net, sending[:len(ahead)] + [beat], ahead + [row])[-1][-1] for row in rows_to(net, place)])


def when_at(net, beats, row, start):
    """The beats at which a packet comes to the places behind the start, from those at which it goes into roads."""
    return [beat + net.roads()[number][2] for beat, number in zip(beats, row)]


def first_late(net, sending, choice):
    """By the words of 15.3."""
    told = play_by_words(net, sending, choice)
    for index, way in enumerate(choice):
        for place, beat in zip(places_of(net, way), when_at(net, told[index], way, sending[index])):
            label = label_by_words(net, sending, choice[:index], sending[index], place)
            if beat > label:
                return (index, place, label)
    return None


def any_sending(chance, many=6, until=6):
    return sorted([chance.number(0, until) for _ in range(chance.number(0, many))])


def small_net(chance):
    """A net with some way, and little room."""
    while True:
        net = chance.net(4, 7)
        roads = [(one, other, length, min(room, chance.number(1, 2))) for one, other, length, room in net.roads()]
        if len(set(roads)) == len(roads):
            return Net(net.places(), roads, net.start(), net.end())


class PlayedTest(unittest.TestCase):
    def test_samples(self):
        chance = Chance(251)
        for _ in range(150):
            net, sending = small_net(chance), any_sending(chance, 8)
            choice = [chance.random.choice(all_ways(net)) for _ in sending]
            told = packets_played(net, sending, choice)
            self.assertEqual(told, play_by_words(net, sending, choice))
            self.assertTrue(type(told) is list and all([type(row) is list for row in told]))
            self.assertTrue(all([type(beat) is int for row in told for beat in row]))
            self.assertEqual(packets_played(net, tuple(sending), swapped(choice)), told)

    def test_by_hand(self):
        self.assertEqual(packets_played(N, [], []), [])
        self.assertEqual(packets_played(NO_WAY, [], []), [])
        # Who came earlier goes in first, though another one is ahead.
        net = Net(3, [(0, 1, 1, 9), (0, 1, 5, 9), (1, 2, 1, 1)], 0, 2)
        self.assertEqual(packets_played(net, [0, 3, 3, 3], [[1, 2], [0, 2], [0, 2], [0, 2]]),
                         [[0, 7, 8], [3, 4, 5], [3, 5, 6], [3, 6, 7]])
        self.assertEqual(packets_played(B, [5, 50, 60], [[0], [1], [0]]), [[5, 6], [50, 53], [60, 61]])

    def test_errors(self):
        doors = [(1, BadSending, "index", BAD_SENDINGS), (2, BadChoice, "index", BAD_CHOICES)]
        for call in (packets_played, quick_fault, packet_gain):
            check_doors(self, call, (N, [0, 1], [[0, 3], [0, 2, 4]]), doors)
            for thing in NO_INTEGERS + [-1, 2, None]:
                check_error(self, BadSending, "index", 2, call, N, [0, 3, thing, None], None)
            for many in (0, 1):
                check_error(self, BadChoice, "index", many, call, N, [0, 1], [[0, 3]] * many)
            check_error(self, BadChoice, "index", 2, call, N, [0, 1], [[0, 3], [1, 4], [1, 4], None])
            check_error(self, BadChoice, "index", 2, call, N, [0, 1], [[0, 3], [1, 4], None])
            check_error(self, BadChoice, "index", 1, call, N, [0, 1], [[0, 3], [1, 3]])
            check_error(self, BadChoice, "index", 0, call, N, [0, 1], [[0], [1, 4], [1, 4]])
            call(net=N, choice=((0, 3), [1, 4]), sending=(0, 0))


class QuickTest(unittest.TestCase):
    def check_choice(self, net, sending):
        told = quick_choice(net, sending)
        self.assertEqual(quick_choice(net, tuple(sending)), told)
        self.assertEqual(len(told), len(sending))
        for index, way in enumerate(told):
            self.assertEqual(way, self.first_way(net, sending, told[:index]))
        self.assertIsNone(quick_fault(net, sending, told))
        self.assertIsNone(first_late(net, sending, told))
        self.check_holds(net, sending, told)
        return told

    def first_way(self, net, sending, ahead):
        """The first way by which the packet behind those ahead is nowhere late."""
        index = len(ahead)
        labels = {place: label_by_words(net, sending, ahead, sending[index], place) for place in reached(net)}
        for way in all_ways(net):
            beats = play_by_words(net, sending[:index + 1], ahead + [way])[-1]
            if when_at(net, beats, way, sending[index]) == [labels[place] for place in places_of(net, way)]:
                return way
        return None

    def check_holds(self, net, sending, told):
        played = packets_played(net, sending, told)
        for number in range(len(net.roads())):
            into = sorted([(beats[way.index(number)], index) for index, (way, beats) in enumerate(zip(told, played))
                           if number in way])
            self.assertEqual([index for _, index in into], sorted([index for _, index in into]))
        there = [dict(zip(places_of(net, way), when_at(net, beats, way, 0))) for way, beats in zip(told, played)]
        for index, one in enumerate(there):
            for other in there[index + 1:]:
                self.assertTrue(all([one[place] <= other[place] for place in one if place in other]))
            self.assertEqual(packets_played(net, sending[:index], told[:index]), played[:index])
            for way in all_ways(net):
                changed = told[:index] + [way] + told[index + 1:]
                self.assertEqual(packets_played(net, sending, changed)[:index], played[:index])
        self.assertIsNone(packet_gain(net, sending, told))

    def test_samples(self):
        chance = Chance(252)
        for _ in range(120):
            self.check_choice(small_net(chance), any_sending(chance, 6, 4))

    def test_through_the_end_and_rings(self):
        for sending in ([], [0], [0, 0, 0], [0, 0, 0, 0, 1, 2]):
            self.check_choice(ROUND_END, sending)
        # Place 3 is come to only behind the end: at 1 + 1 + 1 by nobody, so by the long road.
        self.assertEqual(quick_choice(ROUND_END, [0, 0]), [[0, 1], [0, 1]])

    def test_fault_of_any_choice(self):
        chance = Chance(253)
        found = [0, 0]
        for _ in range(300):
            net, sending = small_net(chance), any_sending(chance, 5, 4)
            choice = [chance.random.choice(all_ways(net)) for _ in sending]
            if chance.number(0, 1):
                quick = quick_choice(net, sending)
                choice = quick[:-2] + choice[max(0, len(quick) - 2):]
            told = quick_fault(net, sending, choice)
            self.assertEqual(told, first_late(net, sending, choice))
            self.assertTrue(told is None or (type(told) is tuple and all([type(part) is int for part in told])))
            self.assertEqual(quick_fault(net, tuple(sending), swapped(choice)), told)
            found[told is None] += 1
            if told is None:
                self.check_holds(net, sending, choice)
        self.assertGreater(min(found), 20)

    def test_late_on_the_way_but_not_at_the_end(self):
        # The second one is late at 1, where a wider road is free, but not at 2, as nobody can be there sooner.
        net = Net(3, [(0, 1, 1, 2), (0, 1, 2, 2), (1, 2, 1, 1)], 0, 2)
        self.assertEqual(quick_fault(net, [0, 0], [[0, 2], [1, 2]]), (1, 1, 1))
        self.assertIsNone(packet_gain(net, [0, 0], [[0, 2], [1, 2]]))

    def test_example(self):
        sending = [0, 0, 0, 0, 1]
        told = quick_choice(N, sending)
        self.assertEqual(told, [[0, 2, 4]] * 5)
        self.assertEqual(packets_played(N, sending, told), [[0, 1, 2, 3]] * 2 + [[1, 2, 3, 4]] * 2 + [[2, 3, 4, 5]])
        self.assertEqual(first_free(N, sending), {0: (2, 1), 2: (3, 1), 4: (4, 1)})
        self.assertEqual(quick_choice(B, [0, 0, 1, 1]), [[0]] * 4)
        self.assertEqual([row[-1] for row in packets_played(B, [0, 0, 1, 1], [[0]] * 4)], [1, 2, 3, 4])
        other = [[0], [1], [0], [0]]
        self.assertEqual([row[-1] for row in packets_played(B, [0, 0, 1, 1], other)], [1, 3, 2, 3])
        self.assertEqual(quick_fault(B, [0, 0, 1, 1], other), (1, 1, 2))
        self.assertEqual(packet_gain(B, [0, 0, 1, 1], other), (1, [0], 2))


class FreeTest(unittest.TestCase):
    def check_free(self, net, sending):
        choice = quick_choice(net, sending)
        played = packets_played(net, sending, choice)
        wanted = {}
        for number, (_, _, _, room) in enumerate(net.roads()):
            into = [beats[way.index(number)] for way, beats in zip(choice, played) if number in way]
            if into:
                left = room - into.count(max(into))
                wanted[number] = (max(into), left) if left else (max(into) + 1, room)
        told = first_free(net, sending)
        self.assertEqual(told, wanted)
        self.assertEqual(list(told), sorted(told))
        self.assertTrue(all([type(pair) is tuple for pair in told.values()]))
        self.assertEqual(first_free(net, tuple(sending)), told)
        return choice, told

    def check_labels(self, net, sending, choice, free, beat):
        told = packet_labels(net, sending, beat)
        self.assertEqual(list(told), reached(net))
        for place in told:
            self.assertEqual(told[place], label_by_words(net, sending, choice, beat, place))
        # By what 15.4 tells: from road to road, who comes goes in at the beat, or at that of the pair.
        for place in told:
            by = [max(told[one], free.get(number, (0, 1))[0]) + length
                  for number, (one, other, length, _) in enumerate(net.roads()) if other == place and one in told]
            self.assertEqual(told[place], beat if place == net.start() else min(by))

    def test_samples(self):
        chance = Chance(254)
        for _ in range(150):
            net, sending = small_net(chance), any_sending(chance, 6, 4)
            choice, free = self.check_free(net, sending)
            last = sending[-1] if sending else 0
            for beat in {last, last + chance.number(0, 3)}:
                self.check_labels(net, sending, choice, free, beat)

    def test_nobody_yet(self):
        self.assertEqual(first_free(N, []), {})
        self.assertEqual(packet_labels(N, [], 7), {0: 7, 1: 8, 2: 9, 3: 10})
        self.assertEqual(list(packet_labels(ROUND_END, [0, 0], 0)), [0, 1, 2, 3])

    def test_within_limits(self):
        chance = Chance(255)
        for _ in range(10):
            net = chance.net(8, 10)
            sending = sorted([chance.number(0, 60) for _ in range(20)])
            choice, _ = self.check_free(net, sending)
            self.assertIsNone(quick_fault(net, sending, choice))
            self.assertIsNone(packet_gain(net, sending, choice))
            self.assertEqual(packets_played(net, sending, choice), play_by_words(net, sending, choice))

    def test_errors(self):
        for call, rest in ((quick_choice, ()), (first_free, ()), (packet_labels, (3,))):
            check_doors(self, call, (N, [0, 1]) + rest, [(1, BadSending, "index", BAD_SENDINGS)])
            check_error(self, BadSending, "index", 2, call, NO_WAY, [0, 3, 2], *rest)
            for sending in ([], [0]):
                check_error(self, NoWay, "args", (), call, NO_WAY, sending, *rest)
        for beat in NO_INTEGERS + [-1, 0, 1, -10 ** 9]:
            check_error(self, BadBeat, "beat", beat, packet_labels, NO_WAY, [0, 2], beat)
        for beat in NO_INTEGERS + [-1]:
            check_error(self, BadBeat, "beat", beat, packet_labels, N, [], beat)
        check_error(self, BadSending, "index", 0, packet_labels, N, [None], None)

    def test_by_names_and_new(self):
        self.assertEqual(quick_choice(sending=[0], net=N), [[0, 2, 4]])
        self.assertEqual(first_free(sending=[0], net=N), {0: (0, 1), 2: (1, 1), 4: (2, 1)})
        self.assertEqual(packet_labels(beat=1, sending=[0], net=N), {0: 1, 1: 2, 2: 3, 3: 4})
        sending, choice = [0, 0], [[0, 2, 4], [0, 3]]
        packets_played(N, sending, choice)[0].clear()
        quick_choice(N, sending)[0].clear()
        first_free(N, sending).clear()
        gain = packet_gain(N, sending, choice)
        gain[1].clear()
        self.assertEqual((sending, choice), ([0, 0], [[0, 2, 4], [0, 3]]))
        self.assertEqual(packet_gain(N, sending, choice), (1, [0, 2, 4], 3))
        self.assertEqual(quick_choice(N, sending), [[0, 2, 4]] * 2)


class GainTest(unittest.TestCase):
    def by_words(self, net, sending, choice):
        ends = [beats[-1] for beats in play_by_words(net, sending, choice)]
        for index, end in enumerate(ends):
            for way in all_ways(net):
                other = choice[:index] + [way] + choice[index + 1:]
                beat = play_by_words(net, sending, other)[index][-1]
                if way != choice[index] and beat < end:
                    return (index, way, beat)
        return None

    def test_samples(self):
        chance = Chance(256)
        found = {}
        for _ in range(300):
            net, sending = small_net(chance), any_sending(chance, 5, 4)
            choice = [chance.random.choice(all_ways(net)) for _ in sending]
            told = packet_gain(net, sending, choice)
            self.assertEqual(told, self.by_words(net, sending, choice))
            self.assertEqual(packet_gain(net, tuple(sending), swapped(choice)), told)
            found[(told is None, quick_fault(net, sending, choice) is None)] = True
            if told is not None:
                self.assertTrue(type(told) is tuple and type(told[1]) is list)
        # Of quick choices nobody gains.
        self.assertLessEqual({(True, True), (False, False)}, set(found))
        self.assertNotIn((False, True), found)


if __name__ == "__main__":
    unittest.main()
