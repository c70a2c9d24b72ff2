"""Rounds of packets that set out again and again, and when all repeats itself."""

from quickbythen.checks import told_many
from quickbythen.course import check_way
from quickbythen.kinds import is_integer, is_number
from quickbythen.nets import shortest
from quickbythen.packeting import Sending, told_sending
from quickbythen.refusals import BadNumber, BadPeriod, BadSending


def told_round(sending, period):
    """The beats of a round; BadSending or BadPeriod for what is none."""
    beats = told_sending(sending)
    if not beats:
        raise BadSending(0)
    if not is_integer(period) or period <= beats[-1]:
        raise BadPeriod(period)
    return beats


def check_number(number):
    """BadNumber for what is no number."""
    if not is_number(number):
        raise BadNumber(number)


class Rounds:
    """Rounds of packets, one behind another, until a stand comes again or there were so many rounds."""

    def __init__(self, net, beats, period, many):
        self.beats = beats
        self.period = period
        self.behind = Sending(net)
        self.least = {place: length[0] for place, length in shortest(net).items()}
        self.stands = [{}]
        self.told = []
        self.again = None
        seen = {(): 0}
        while len(self.told) < many and self.again is None:
            self.send_round()
            stand = self.stands[-1]
            key = tuple([(number, stand[number]) for number in stand])
            if key in seen:
                self.again = (seen[key], len(self.told) - seen[key])
            seen[key] = len(self.told)

    def send_round(self):
        """Let the packets of one round more set out, and keep their ways, when they are at the end, and the stand."""
        begin = self.period * len(self.told)
        row = []
        for beat in self.beats:
            way = self.behind.first_way(self.behind.labels(begin + beat))
            row.append((way, self.behind.go(way, begin + beat)))
        self.told.append(row)
        self.stands.append(self.stand_at(begin + self.period))

    def stand_at(self, beat):
        """The dict, ascending, from the roads that have something left at a beat to how long still, and how much."""
        found = {}
        for number in sorted(self.behind.free):
            first, left = self.behind.free[number]
            one, _, _, room = self.behind.roads[number]
            wait = first - beat - self.least[one]
            if wait > 0 or (wait == 0 and left < room):
                found[number] = (wait, left)
        return found

    def alike(self, number):
        """Behind so many rounds all is as behind this number of rounds, which is one that was looked at."""
        if self.again is None:
            return number
        first, rounds = self.again
        return number if number < first else first + (number - first) % rounds


def round_stand(net, sending, period, number):
    """The roads that have something left behind so many rounds, how long still, and how much."""
    beats = told_round(sending, period)
    check_number(number)
    check_way(net)
    rounds = Rounds(net, beats, period, number)
    return rounds.stands[rounds.alike(number)]


def comes_again(net, sending, period, many):
    """From behind how many rounds on all repeats itself, and with how many; None if not within so many."""
    beats = told_round(sending, period)
    number = told_many(many)
    check_way(net)
    return Rounds(net, beats, period, number).again


def far_packet(net, sending, period, number, many):
    """The way of the packet with this number, and when it is at the end; None if so many rounds do not tell it."""
    beats = told_round(sending, period)
    check_number(number)
    most = told_many(many)
    check_way(net)
    rounds = Rounds(net, beats, period, most)
    turn = number // len(beats)
    like = rounds.alike(turn)
    if like >= len(rounds.told):
        return None
    way, beat = rounds.told[like][number % len(beats)]
    return (way, beat + period * (turn - like))
