"""What comes of a plan: each road is played on from moment to moment."""

from quickbythen.bends import cut_at, heap_curve, tidied
from quickbythen.exact import ONE, ZERO, is_less, lesser, minus, over, plus, sooner, times, total
from quickbythen.sequence import order_in


class RoadPlay:
    """A road, up to the moment to which it has been played.

    Flows are lists of pairs of a moment and the rate from it on. A road reads
    what comes to its begin and writes what comes to its end.
    """

    def __init__(self, length, room):
        self.length = (length, 1)
        self.room = (room, 1)
        self.coming = []
        self.going = []
        self.reached = []
        self.now = ZERO
        self.line = ZERO
        self.marks = []
        self.growth = ZERO

    def join_flow(self, coming, going):
        """Let a flow come, and write how it goes out."""
        self.coming.append(coming)
        self.going.append(going)
        self.reached.append(0)

    def play_to(self, until):
        """Play on to a moment, for ever if it is None."""
        while self.now is not None and (until is None or is_less(self.now, until)):
            self.play_piece(until)

    def play_piece(self, until):
        """Play on until a rate changes, a line ends or the moment has come."""
        rates = self.rates_now()
        rate = total(rates)
        stop = self.next_stop(rate, until)
        self.marks.append((self.now, self.line))
        self.send_on(rates, rate)
        self.growth = ZERO
        if self.line != ZERO or is_less(self.room, rate):
            self.growth = minus(rate, self.room)
        if stop is not None:
            self.line = plus(self.line, times(self.growth, minus(stop, self.now)))
        self.now = stop

    def rates_now(self):
        """The rates at which the flows come from now on."""
        for index, flow in enumerate(self.coming):
            at = self.reached[index]
            while at + 1 < len(flow) and not is_less(self.now, flow[at + 1][0]):
                at += 1
            self.reached[index] = at
        return [flow[at][1] for flow, at in zip(self.coming, self.reached)]

    def next_stop(self, rate, until):
        """The first moment at which something changes, None if nothing ever does."""
        stop = until
        for flow, at in zip(self.coming, self.reached):
            if at + 1 < len(flow):
                stop = sooner(stop, flow[at + 1][0])
        if self.line != ZERO and is_less(rate, self.room):
            stop = sooner(stop, plus(self.now, over(self.line, minus(self.room, rate))))
        return stop

    def next_change(self):
        """The first moment, from now on, at which the piece that was played last ends, None if it never does."""
        if not self.marks:
            return self.now
        change = None
        if self.growth[0] < 0:
            change = minus(self.now, over(self.line, self.growth))
        for flow, at in zip(self.coming, self.reached):
            if at + 1 < len(flow):
                change = sooner(change, flow[at + 1][0])
        return change

    def send_on(self, rates, rate):
        """Write how those who come from now on go out."""
        is_held = self.line != ZERO or is_less(self.room, rate)
        if is_held and rate == ZERO:
            return
        share = ONE
        if is_held:
            share = over(self.room, rate)
        moment = plus(plus(self.now, over(self.line, self.room)), self.length)
        for flow, part in zip(self.going, rates):
            out = times(part, share)
            if flow[-1][1] != out:
                flow.append((moment, out))

    def line_marks(self):
        """The curve of the line, up to the moment to which the road has been played."""
        if self.now is None:
            return tidied(self.marks, self.growth)
        return tidied(self.marks + [(self.now, self.line)], ZERO)


class Play:
    """A plan played out to a moment, for ever if it has an order."""

    def __init__(self, net, plan, until):
        self.net = net
        self.plan = plan
        self.flows = []
        self.road_plays = [RoadPlay(road[2], road[3]) for road in net.roads()]
        for way, comers in plan:
            self.join_group(way, comers)
        order = order_in([group[0] for group in plan])
        if order is None:
            self.play_by_beats(until)
        else:
            for number in order:
                self.road_plays[number].play_to(None)

    def join_group(self, way, comers):
        """Let the drops of a group come to the roads of their way."""
        flows = [comers]
        for number in way:
            flows.append([(ZERO, ZERO)])
            self.road_plays[number].join_flow(flows[-2], flows[-1])
        self.flows.append(flows)

    def play_by_beats(self, until):
        """Play all roads side by side."""
        used = [number for way, _ in self.plan for number in way]
        # Nobody is through a road in less beats: so what changes is seen elsewhere only so much later.
        step = (min([self.net.roads()[number][2] for number in used]), 1)
        reached = ZERO
        while is_less(reached, until):
            change = self.next_change()
            reached = until
            if change is not None:
                reached = lesser(plus(change, step), until)
            for road in self.road_plays:
                road.play_to(reached)

    def next_change(self):
        """The first moment at which something changes at some road, None if nothing is known to change."""
        change = None
        for road in self.road_plays:
            moment = road.next_change()
            if moment is not None:
                change = sooner(change, moment)
        return change

    def heaps(self, index):
        """The curves of how many of a group have come to each place of their way."""
        return [heap_curve(flow) for flow in self.flows[index]]

    def heaps_until(self, index, until):
        """The same curves, staying from a moment on."""
        return [cut_at(curve, until) for curve in self.heaps(index)]

    def line_curve(self, number):
        """The curve of the line of the road with this number."""
        return self.road_plays[number].line_marks()

    def lines_until(self, until):
        """The curves of all lines, staying from a moment on."""
        return [cut_at(road.line_marks(), until) for road in self.road_plays]
