"""Flows that cost as little as can be, and marks that show it."""

from quickbythen.cuts import pushing_in, some_goes
from quickbythen.exact import ZERO, is_less, minus, plus, times
from quickbythen.nets import shortest


def steps_in(net, pushing):
    """All steps by which something can be pushed: (one, other, length, arc, is_ahead), back with a length below 0."""
    found = []
    for index, (one, other, length, _) in enumerate(net.roads()):
        if pushing.step_over(index, one) is not None:
            found.append((one, other, length, index, True))
        if pushing.step_over(index, other) is not None:
            found.append((other, one, -length, index, False))
    return found


def settled_lengths(steps, lengths):
    """The least lengths that steps make of some, by places, and the last steps to those that they change."""
    found = {place: lengths[place] for place in lengths}
    last = {}
    is_changing = True
    while is_changing:
        is_changing = False
        for step in steps:
            one, other, length = step[:3]
            if one in found and (other not in found or found[one] + length < found[other]):
                found[other] = found[one] + length
                last[other] = step
                is_changing = True
    return (found, last)


def cheapest_trail(net, pushing):
    """A trail of pairs of an arc and whether it is gone ahead, from the start to the end, that costs least."""
    last = settled_lengths(steps_in(net, pushing), {net.start(): 0})[1]
    trail = []
    place = net.end()
    while place != net.start():
        trail.append(last[place][3:])
        place = last[place][0]
    return trail[::-1]


def cheapest_goes(net, rate):
    """A flow of a rate, not above the room of the least cut, within rooms, that costs least."""
    pushing = pushing_in(net)
    left = rate
    while left != ZERO:
        # What is pushed along cheapest trails one behind another costs least at each time.
        left = minus(left, pushing.push_along(cheapest_trail(net, pushing), left))
    return some_goes(pushing.goes)


def cost_of(net, goes):
    """The sum of all goes, each times the road's length."""
    roads = net.roads()
    found = ZERO
    for number in goes:
        found = plus(found, times(goes[number], (roads[number][2], 1)))
    return found


def is_within(net, goes):
    """Whether no goes are above the road's room."""
    roads = net.roads()
    return not any([is_less((roads[number][3], 1), goes[number]) for number in goes])


def marks_of(net, goes):
    """Marks of a flow that costs least."""
    pushing = pushing_in(net)
    for number in goes:
        pushing.goes[number] = goes[number]
    # No ring of steps is below 0, so from any lengths least ones are come to.
    found = settled_lengths(steps_in(net, pushing), {place: 0 for place in shortest(net)})[0]
    return {place: (found[place] - found[net.start()], 1) for place in found}


def are_marks(net, goes, marks):
    """Whether told fractions by places are marks of goes within rooms."""
    if list(marks) != list(shortest(net)) or marks[net.start()] != ZERO:
        return False
    for number, (one, other, length, room) in enumerate(net.roads()):
        much = goes.get(number, ZERO)
        if one not in marks:
            if much != ZERO:
                return False
            continue
        more = minus(minus(marks[other], marks[one]), (length, 1))
        if (more[0] > 0 and much != (room, 1)) or (more[0] < 0 and much != ZERO):
            return False
    return True
