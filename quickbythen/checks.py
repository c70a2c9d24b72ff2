"""What is passed, looked at once and told in lowest terms."""

from quickbythen.errors import BadComers, BadFraction, BadHeap, BadMany, BadMoment, BadRate, BadRoad
from quickbythen.exact import is_less, lowest
from quickbythen.kinds import is_count, is_fraction, is_index, is_integer, is_list, is_moment, is_pair
from quickbythen.refusals import BadRow


def told_fraction(thing):
    """A fraction in lowest terms; BadFraction for what is none."""
    if not is_fraction(thing):
        raise BadFraction(thing)
    return lowest(thing[0], thing[1])


def told_moment(thing):
    """A moment in lowest terms; BadMoment for what is none."""
    if not is_moment(thing):
        raise BadMoment(thing)
    return lowest(thing[0], thing[1])


def told_rate(thing):
    """A rate in lowest terms; BadRate for what is none."""
    if not is_moment(thing):
        raise BadRate(thing)
    return lowest(thing[0], thing[1])


def told_heap(thing):
    """A heap in lowest terms; BadHeap for what is none."""
    if not is_moment(thing):
        raise BadHeap(thing)
    return lowest(thing[0], thing[1])


def first_bad_comer(thing):
    """The index of the first thing that keeps this from being comers, None if they are."""
    if not is_list(thing) or len(thing) == 0:
        return 0
    for index, pair in enumerate(thing):
        if not (is_pair(pair) and is_moment(pair[0]) and is_moment(pair[1])):
            return index
        if index == 0 and pair[0][0] > 0:
            return index
        if index > 0 and not is_less(thing[index - 1][0], pair[0]):
            return index
    return None


def told_comers(comers):
    """Comers with unlike rates in neighbours; BadComers for what are none."""
    index = first_bad_comer(comers)
    if index is not None:
        raise BadComers(index)
    found = []
    for moment, rate in comers:
        told = lowest(rate[0], rate[1])
        if not found or found[-1][1] != told:
            found.append((lowest(moment[0], moment[1]), told))
    return found


def is_lane(thing):
    """Whether a thing is a pair of a length and a room."""
    return is_pair(thing) and is_count(thing[0]) and is_count(thing[1])


def told_lane(road):
    """The length and the room of one road; BadRoad for what is none."""
    if not is_lane(road):
        raise BadRoad(road)
    return (road[0], road[1])


def told_many(many):
    """A number of phases; BadMany for what is none."""
    if not is_count(many):
        raise BadMany(many)
    return many


def is_row(thing):
    """Whether a thing is a row of roads."""
    return is_list(thing) and len(thing) > 0 and all([is_lane(road) for road in thing])


def told_row(row):
    """The lengths and rooms of a row of roads; BadRow for what is none."""
    if not is_row(row):
        raise BadRow(row)
    return [(road[0], road[1]) for road in row]


def told_worths(thing):
    """The dict, ascending, from integers to fractions in lowest terms that a thing is, None if it is none."""
    if not isinstance(thing, dict):
        return None
    for key, worth in thing.items():
        if not is_integer(key) or not is_fraction(worth):
            return None
    return {key: lowest(thing[key][0], thing[key][1]) for key in sorted(thing)}


def told_goes(thing, many):
    """The goes, all above 0, of some of so many roads that a thing is, None if it is none."""
    found = told_worths(thing)
    if found is None or not all([is_index(number, many) and found[number][0] > 0 for number in found]):
        return None
    return found
