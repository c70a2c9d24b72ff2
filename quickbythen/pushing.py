"""Drops pushed from place to place along arcs, of each of which only so much can go."""

from quickbythen.exact import ZERO, is_less, lesser, minus, negative, plus


class Pushing:
    """Arcs (one, other, most), most a fraction, and what goes on each of them."""

    def __init__(self, arcs):
        self.arcs = arcs
        self.goes = [ZERO for _ in arcs]

    def step_over(self, index, place):
        """To which place more can be pushed by an arc from this one, ahead or back; None if to none."""
        one, other, most = self.arcs[index]
        if place == one and is_less(self.goes[index], most):
            return other
        if place == other and self.goes[index] != ZERO:
            return one
        return None

    def trails_from(self, source):
        """The dict from all places to which more can be pushed from a place to the last arcs of shortest trails."""
        found = {source: None}
        newest = [source]
        while newest:
            later = []
            for place in newest:
                for index in range(len(self.arcs)):
                    far = self.step_over(index, place)
                    if far is not None and far not in found:
                        found[far] = index
                        later.append(far)
            newest = later
        return found

    def trail_to(self, source, sink):
        """A shortest trail of pairs of an arc and whether it is gone ahead, None if there is none."""
        last = self.trails_from(source)
        if sink not in last:
            return None
        trail = []
        place = sink
        while place != source:
            one, other, _ = self.arcs[last[place]]
            trail.append((last[place], place == other))
            place = one if place == other else other
        return trail[::-1]

    def push_along(self, trail, most):
        """Push as much as can go along a trail, but at most so much, if most is not None; tell how much."""
        much = most
        for index, is_ahead in trail:
            room = self.goes[index]
            if is_ahead:
                room = minus(self.arcs[index][2], room)
            much = room if much is None else lesser(much, room)
        for index, is_ahead in trail:
            step = much if is_ahead else negative(much)
            self.goes[index] = plus(self.goes[index], step)
        return much

    def push(self, source, sink, most):
        """Push as much as can go from one place to another, but at most so much, if most is not None; tell how much."""
        pushed = ZERO
        trail = self.trail_to(source, sink)
        while trail is not None and (most is None or is_less(pushed, most)):
            left = None if most is None else minus(most, pushed)
            pushed = plus(pushed, self.push_along(trail, left))
            trail = self.trail_to(source, sink)
        return pushed
