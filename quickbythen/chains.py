"""Bundles one behind another."""

from quickbythen.bends import after, leant, steps_of, straight
from quickbythen.checks import told_comers
from quickbythen.exact import ONE, ZERO, negative
from quickbythen.kinds import is_list
from quickbythen.lanes import first_bad_row, told_lanes
from quickbythen.nets import Net
from quickbythen.passing import out_curve, passed, when_curve
from quickbythen.refusals import BadChain


def told_chain(chain):
    """The lanes of each bundle; BadChain for what is no chain."""
    if not is_list(chain) or len(chain) == 0:
        raise BadChain(0)
    for index, bundle in enumerate(chain):
        if first_bad_row(bundle) is not None:
            raise BadChain(index)
    return [told_lanes(bundle) for bundle in chain]


def chain_through(chain, comers):
    """The curve of how long who comes at a moment takes through all bundles."""
    parts = told_chain(chain)
    steps = told_comers(comers)
    when = straight(ZERO, ONE)
    for lanes in parts:
        stretches = passed(lanes, steps)
        when = after(when_curve(stretches), when)
        steps = steps_of(out_curve(stretches, steps))
    return leant(when, negative(ONE))


def chain_net(chain):
    """The net of a row of places with a road from one to the next for each lane."""
    parts = told_chain(chain)
    roads = [(index, index + 1, length, room) for index, lanes in enumerate(parts) for length, room in lanes]
    return Net(len(parts) + 1, roads, 0, len(parts))
