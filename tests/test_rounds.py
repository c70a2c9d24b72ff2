"""15.6 and 15.7: rounds that come again, or never do; across sections 10 and 11; and what 15.8 shows of them."""

import unittest

from quickbythen.changes import is_chain
from quickbythen.cuts import least_cut, room_of
from quickbythen.errors import BadMany, NoWay
from quickbythen.nets import Net, shortest
from quickbythen.packets import first_free, packets_played, quick_choice
from quickbythen.refusals import BadNumber, BadPeriod, BadSending
from quickbythen.rounds import comes_again, far_packet, round_stand
from tests.helpers import N, NO_INTEGERS, Chance, check_doors, check_error
from tests.test_packets import B, BAD_SENDINGS, small_net
from tests.test_phases import BAD_MANY
from tests.test_through import NO_WAY

BAD_NUMBERS = NO_INTEGERS + [-1, -10 ** 30]
BAD_PERIODS = NO_INTEGERS + [0, 1, -5]


def any_round(chance, most=5):
    """A round and its period."""
    period = chance.number(1, 5)
    return sorted([chance.number(0, period - 1) for _ in range(chance.number(1, most))]), period


def chain_of(chance):
    """A chain with a way, with little room."""
    places = chance.number(2, 4)
    roads = {(at, at + 1, chance.number(1, 4), chance.number(1, 2)) for at in range(places - 1)}
    roads |= {(at, at + 1, chance.number(1, 4), chance.number(1, 2)) for at in range(places - 1)}
    return Net(places, sorted(roads), 0, places - 1)


def unrolled(sending, period, number):
    """The sending of so many rounds."""
    return [period * turn + beat for turn in range(number) for beat in sending]


def stand_by_words(net, sending, period, number):
    """By the words of 15.6."""
    found = {}
    least = shortest(net)
    for road, (beat, left) in first_free(net, unrolled(sending, period, number)).items():
        one, _, _, room = net.roads()[road]
        wait = beat - number * period - least[one][0]
        if wait > 0 or (wait == 0 and left < room):
            found[road] = (wait, left)
    return found


class RoundsTest(unittest.TestCase):
    def check_round(self, net, sending, period, many):
        stands = [stand_by_words(net, sending, period, number) for number in range(many + 1)]
        for number in (0, 1, many // 2, many):
            told = round_stand(net, sending, period, number)
            self.assertEqual(told, stands[number])
            self.assertEqual(list(told), sorted(told))
            self.assertTrue(all([type(pair) is tuple for pair in told.values()]))
        again = [(first, rounds) for first in range(many) for rounds in range(1, many + 1 - first)
                 if stands[first] == stands[first + rounds]]
        told = comes_again(net, sending, period, many)
        self.assertEqual(told, again[0] if again else None)
        self.assertTrue(told is None or type(told) is tuple)
        self.assertEqual(comes_again(net, tuple(sending), period, many), told)
        if told is not None:
            for fewer in range(1, many + 1):
                self.assertEqual(comes_again(net, sending, period, fewer), told if sum(told) <= fewer else None)
        self.check_packets(net, sending, period, many, told)
        return told

    def check_packets(self, net, sending, period, many, again):
        """Against all packets of twice as many rounds, that go one behind another."""
        whole = unrolled(sending, period, 2 * many)
        choice = quick_choice(net, whole)
        played = packets_played(net, whole, choice)
        for number in range(len(whole)):
            told = far_packet(net, sending, period, number, many)
            if again is None and number >= many * len(sending):
                self.assertIsNone(told)
                continue
            self.assertEqual(told, (choice[number], played[number][-1]))
            self.assertTrue(type(told) is tuple and type(told[0]) is list)
        if again is not None:
            self.check_far(net, sending, period, many, again)

    def check_far(self, net, sending, period, many, again):
        first, rounds = again
        for number in (first * len(sending), 10 ** 30, 10 ** 30 + len(sending) // 2):
            way, beat = far_packet(net, sending, period, number, many)
            later = far_packet(net, sending, period, number + rounds * len(sending), many)
            self.assertEqual(later, (way, beat + rounds * period))

    def test_samples(self):
        chance = Chance(261)
        found = [0, 0]
        for _ in range(60):
            sending, period = any_round(chance)
            found[self.check_round(small_net(chance), sending, period, chance.number(1, 9)) is None] += 1
        self.assertGreater(min(found), 10)

    def test_more_than_the_least_cut_lets_in(self):
        chance = Chance(262)
        found = 0
        for _ in range(60):
            net = small_net(chance)
            sending, period = any_round(chance, 8)
            if len(sending) > period * room_of(net, least_cut(net)):
                self.assertIsNone(comes_again(net, sending, period, 60))
                found += 1
        self.assertGreater(found, 10)

    def test_chains(self):
        chance = Chance(263)
        found = [0, 0]
        for _ in range(60):
            net = chain_of(chance)
            self.assertTrue(is_chain(net))
            sending, period = any_round(chance, 8)
            is_enough = len(sending) <= period * room_of(net, least_cut(net))
            self.assertIs(comes_again(net, sending, period, 300) is not None, is_enough)
            found[is_enough] += 1
        self.assertGreater(min(found), 10)

    def test_rounds_that_come_again_later(self):
        # The first packets find all free: the long road is gone only when the short one has a line of two beats.
        net = Net(2, [(0, 1, 1, 1), (0, 1, 3, 1)], 0, 1)
        told = self.check_round(net, [0, 0, 0, 0], 2, 9)
        self.assertGreater(told[0], 0)
        self.assertEqual(self.check_round(net, [0], 1, 3), (0, 1))
        self.assertEqual(self.check_round(net, [0, 0, 0], 2, 1), None)

    def test_within_limits(self):
        chance = Chance(264)
        for _ in range(3):
            net = chance.net(8, 10)
            sending = sorted([chance.number(0, 11) for _ in range(8)])
            told = comes_again(net, sending, 12, 300)
            if told is not None:
                self.check_far(net, sending, 12, 300, told)
        net = Net(2, [(0, 1, 1, 1), (0, 1, 3, 1)], 0, 1)
        self.assertIsNone(comes_again(net, [0] * 8, 1, 300))
        self.assertEqual(len(round_stand(net, [0] * 8, 1, 300)), 2)
        self.assertIsNotNone(far_packet(net, [0] * 8, 1, 2399, 300))
        self.assertIsNone(far_packet(net, [0] * 8, 1, 2400, 300))

    def test_example(self):
        self.assertEqual(comes_again(B, [0, 0, 0], 2, 9), (1, 1))
        self.assertEqual(round_stand(B, [0, 0, 0], 2, 1), {0: (1, 1)})
        self.assertEqual(far_packet(B, [0, 0, 0], 2, 3 * 10 ** 30, 9), ([0], 2 * 10 ** 30 + 2))
        self.assertIsNone(comes_again(B, [0, 0, 0, 0, 0], 2, 300))
        self.assertEqual(round_stand(N, [0, 0, 0, 0, 1], 2, 1), {0: (0, 1), 2: (0, 1), 4: (0, 1)})


class ErrorsTest(unittest.TestCase):
    def test_in_order(self):
        doors = [(1, BadSending, "index", BAD_SENDINGS + [[]]), (2, BadPeriod, "period", BAD_PERIODS)]
        number, many = (BadNumber, "number", BAD_NUMBERS), (BadMany, "many", BAD_MANY)
        check_doors(self, round_stand, (N, [0, 1], 2, 3), doors + [(3, *number)])
        check_doors(self, comes_again, (N, [0, 1], 2, 3), doors + [(3, *many)])
        check_doors(self, far_packet, (N, [0, 1], 2, 3, 4), doors + [(3, *number), (4, *many)])
        for call, rest in ((round_stand, (3,)), (comes_again, (3,)), (far_packet, (3, 4))):
            check_error(self, NoWay, "args", (), call, NO_WAY, [0], 1, *rest)
            check_error(self, BadSending, "index", 1, call, NO_WAY, [3, 2], None, *rest)
            for period in (0, 1, 7, True):
                check_error(self, BadPeriod, "period", period, call, NO_WAY, [0, 7], period, *[None for _ in rest])
            call(N, [0, 7], 8, *rest)
        for number in BAD_NUMBERS:
            check_error(self, BadNumber, "number", number, round_stand, NO_WAY, [0], 1, number)

    def test_by_names_and_new(self):
        self.assertEqual(round_stand(number=1, period=2, sending=[0, 0, 0], net=B), {0: (1, 1)})
        self.assertEqual(comes_again(many=9, period=2, sending=[0, 0, 0], net=B), (1, 1))
        self.assertEqual(far_packet(many=9, number=4, period=2, sending=[0, 0, 0], net=B), ([0], 5))
        sending = [0, 0, 0]
        round_stand(B, sending, 2, 1).clear()
        far_packet(B, sending, 2, 4, 9)[0].clear()
        self.assertEqual(sending, [0, 0, 0])
        self.assertEqual(round_stand(B, sending, 2, 1), {0: (1, 1)})
        self.assertEqual(far_packet(B, sending, 2, 4, 9), ([0], 5))


if __name__ == "__main__":
    unittest.main()
