"""Stands of a net, and the one table of slopes for each of them."""

from quickbythen.checks import told_rate
from quickbythen.errors import BadStand, NoWay
from quickbythen.exact import ZERO
from quickbythen.kinds import is_index, is_list, is_pair
from quickbythen.stands import Stand


def are_numbers(net, thing):
    """Whether a thing is an ascending list of unlike numbers of roads."""
    if not is_list(thing):
        return False
    many = len(net.roads())
    for index, number in enumerate(thing):
        if not is_index(number, many) or (index > 0 and number <= thing[index - 1]):
            return False
    return True


def is_stand(net, thing):
    """Whether a thing is a stand of a net."""
    if not is_pair(thing) or not are_numbers(net, thing[0]) or not are_numbers(net, thing[1]):
        return False
    if not all([number in thing[0] for number in thing[1]]):
        return False
    return Stand(net, list(thing[0]), list(thing[1])).is_led()


def told_stand(net, stand):
    """A stand; BadStand for what is none."""
    if not is_stand(net, stand):
        raise BadStand(stand)
    return Stand(net, list(stand[0]), list(stand[1]))


def table(net, stand, rate):
    """A pair of slopes and goes for a stand and a rate."""
    told = told_stand(net, stand)
    wanted = told_rate(rate)
    if wanted != ZERO and net.end() not in told.places:
        raise NoWay()
    return told.table(wanted)


def is_table(net, stand, rate, thing):
    """Whether a thing is a table for a stand and a rate."""
    told = told_stand(net, stand)
    wanted = told_rate(rate)
    return told.slopes_in(wanted, thing) is not None
