"""Days that come to a bundle and repeat themselves: how long it takes at their begins and ends."""

from quickbythen.bends import after, first_positive, leant, merged, moments_of, scaled_by, tidied, worth_of
from quickbythen.curves import first_at
from quickbythen.exact import ONE, ZERO, is_less, lowest, minus, negative, over, plus, times
from quickbythen.kinds import is_fraction
from quickbythen.lanes import room_within, told_lanes
from quickbythen.parts import steps_in, told_part
from quickbythen.passing import passed_from, through_curve
from quickbythen.refusals import BadTaken


def taken_behind(lanes, steps, taken, beats):
    """How long who comes so many beats later takes, if who comes first takes so long."""
    return worth_of(through_curve(passed_from(lanes, steps, taken)), beats)


def day_through(bundle, day, taken):
    """How long who comes at the end of a day takes, if who comes at its begin takes so long."""
    lanes = told_lanes(bundle)
    part = told_part(day)
    if not is_fraction(taken) or is_less(taken, (lanes[0][0], 1)):
        raise BadTaken(taken)
    return taken_behind(lanes, steps_in(part), lowest(taken[0], taken[1]), part.beats)


def worths_ahead(curve, beats):
    """The worths of a curve so many beats ahead of its corners, as far as there are such."""
    return [worth_of(curve, minus(moment, beats)) for moment in moments_of(curve) if not is_less(moment, beats)]


def bends_of(lanes, rate, beats):
    """Rising fractions so that what comes of what is taken, by a rate for some beats, bends only at these."""
    steps = [(ZERO, rate)]
    least = (lanes[0][0], 1)
    last = (lanes[-1][0], 1)
    room = (room_within(lanes, lanes[-1][0]), 1)
    rising = worths_ahead(through_curve(passed_from(lanes, steps, least)), beats)
    found = merged([(length, 1) for length, _ in lanes], rising)
    if is_less(rate, room):
        # Above this one the line of the longest lane does not end within these beats.
        high = plus(last, times(beats, minus(ONE, over(rate, room))))
        falling = worths_ahead(through_curve(passed_from(lanes, steps, high)), beats)
        found = merged(found, falling[::-1])
    return found


def step_curve(lanes, rate, beats):
    """The curve, by how long who comes first takes, of how long who comes so many beats later does."""
    corners = []
    for taken in bends_of(lanes, rate, beats):
        worth = taken_behind(lanes, [(ZERO, rate)], taken, beats)
        if not corners:
            corners.append((ZERO, worth))
        corners.append((taken, worth))
    return tidied(corners, ONE)


def day_curve(lanes, part):
    """The curve of day_through by what is taken, for all from the length of the shortest lane on."""
    steps = steps_in(part)
    found = leant(([(ZERO, ZERO)], ZERO), ONE)
    for index, (moment, rate) in enumerate(steps):
        if is_less(moment, part.beats):
            end = part.beats
            if index + 1 < len(steps):
                end = steps[index + 1][0]
            found = after(step_curve(lanes, rate, minus(end, moment)), found)
    return found


def repeating(bundle, day):
    """The least fraction from which a day repeats itself, and the greatest one, if there is one; None if none does."""
    lanes = told_lanes(bundle)
    loss = scaled_by(leant(day_curve(lanes, told_part(day)), negative(ONE)), negative(ONE))
    # The more is taken at the begin, the less is gained: so those from which nothing is are side by side.
    least = first_at(loss, ZERO)
    if least is None:
        return None
    return (least, first_positive(loss))
