"""Packets, whole drops, that go into roads beat by beat."""

from quickbythen.course import check_way
from quickbythen.kinds import is_list, is_number
from quickbythen.nets import is_way
from quickbythen.refusals import BadChoice, BadSending


def told_sending(sending):
    """The beats at which packets set out; BadSending for what is no sending."""
    if not is_list(sending):
        raise BadSending(0)
    for index, beat in enumerate(sending):
        if not is_number(beat) or (index > 0 and beat < sending[index - 1]):
            raise BadSending(index)
    return list(sending)


def told_choice(net, many, choice):
    """The ways of so many packets; BadChoice for what is no choice."""
    if not is_list(choice):
        raise BadChoice(0)
    for index, way in enumerate(choice):
        if index >= many or not is_way(net, way):
            raise BadChoice(index)
    if len(choice) < many:
        raise BadChoice(len(choice))
    return [list(way) for way in choice]


class Beats:
    """Packets that go their ways, beat by beat: in line at each road, who came earlier first, then who is ahead."""

    def __init__(self, net, sending, choice):
        self.roads = net.roads()
        self.choice = choice
        self.told = [[] for _ in sending]
        self.lines = [[] for _ in self.roads]
        self.coming = {}
        for index, beat in enumerate(sending):
            self.join_at(beat, index)

    def join_at(self, beat, index):
        """Let a packet come to the end of its road, or to the start, at a beat."""
        self.coming.setdefault(beat, []).append(index)

    def play(self):
        """By packets, the beats at which they go into each road of their way, and that at which they are at the end."""
        while self.coming:
            beat = min(list(self.coming))
            for index in sorted(self.coming.pop(beat)):
                way = self.choice[index]
                if len(self.told[index]) == len(way):
                    self.told[index].append(beat)
                else:
                    self.lines[way[len(self.told[index])]].append(index)
            self.let_in(beat)
        return self.told

    def let_in(self, beat):
        """Let at each road as many go in as there is room."""
        for number, (_, _, length, room) in enumerate(self.roads):
            line = self.lines[number]
            for index in line[:room]:
                self.told[index].append(beat)
                self.join_at(beat + length, index)
            self.lines[number] = line[room:]
            if self.lines[number]:
                # Who waits is looked at again at the next beat.
                self.coming.setdefault(beat + 1, [])


class Sending:
    """Packets that set out one behind another, each by a way that is quick: what is still free behind them."""

    def __init__(self, net):
        self.roads = net.roads()
        self.start = net.start()
        self.end = net.end()
        self.free = {}

    def goes_in(self, number, beat):
        """The beat at which one packet more goes into a road that comes to its begin at a beat."""
        if number not in self.free:
            return beat
        return max(beat, self.free[number][0])

    def out_at(self, number, beat):
        """The beat at which it is at the road's end."""
        return self.goes_in(number, beat) + self.roads[number][2]

    def labels(self, beat):
        """The dict, ascending, from the places to the earliest beats of one packet more that sets out at a beat."""
        found = {self.start: beat}
        changed = [self.start]
        while changed:
            later = []
            for number, (one, other, _, _) in enumerate(self.roads):
                if one not in changed:
                    continue
                out = self.out_at(number, found[one])
                if other not in found or out < found[other]:
                    found[other] = out
                    later.append(other)
            changed = later
        return {place: found[place] for place in sorted(found)}

    def quick_roads(self, labels):
        """The roads by which their ends are come to at their labels from places at theirs."""
        return [number for number, (one, other, _, _) in enumerate(self.roads)
                if one in labels and self.out_at(number, labels[one]) == labels[other]]

    def first_way(self, labels):
        """The first way by which one packet more is nowhere late."""
        quick = self.quick_roads(labels)
        leading = {self.end: True}
        is_growing = True
        while is_growing:
            more = [self.roads[number][0] for number in quick
                    if self.roads[number][1] in leading and self.roads[number][0] not in leading]
            is_growing = len(more) > 0
            for place in more:
                leading[place] = True
        way = []
        place = self.start
        while place != self.end:
            fitting = [number for number in quick
                       if self.roads[number][0] == place and self.roads[number][1] in leading]
            way.append(fitting[0])
            place = self.roads[fitting[0]][1]
        return way

    def go(self, way, beat):
        """Let one packet more set out at a beat, and go a way; the beat at which it is at the end."""
        now = beat
        for number in way:
            inside = self.goes_in(number, now)
            left = self.roads[number][3]
            if number in self.free and self.free[number][0] == inside:
                left = self.free[number][1]
            self.free[number] = (inside, left - 1) if left > 1 else (inside + 1, self.roads[number][3])
            now = inside + self.roads[number][2]
        return now

    def send(self, beat):
        """Let one packet more set out at a beat, and go the first way by which it is nowhere late; tell the way."""
        way = self.first_way(self.labels(beat))
        self.go(way, beat)
        return way


def sent(net, sending):
    """What is free behind the packets of a sending that all go quick, and their ways; BadSending, NoWay."""
    beats = told_sending(sending)
    check_way(net)
    behind = Sending(net)
    return (behind, [behind.send(beat) for beat in beats])
