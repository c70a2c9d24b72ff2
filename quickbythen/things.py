"""Things that have texts: of which kind they are, and as they are told."""

from quickbythen.checks import first_bad_comer, told_comers, told_worths
from quickbythen.curves import is_curve, plain
from quickbythen.exact import is_less, lowest
from quickbythen.kinds import is_list, is_moment
from quickbythen.nets import Net
from quickbythen.parts import Part, is_part

KINDS = ("net", "comers", "curve", "schedule", "phases")


def told_moments(thing):
    """The dict, ascending, from numbers to fractions from 0 on that a thing is, None if it is none."""
    found = told_worths(thing)
    if found is None or not all([number >= 0 and found[number][0] >= 0 for number in found]):
        return None
    return found


def told_phase(thing):
    """A phase of whatever net, told; None for what is none."""
    if not is_list(thing) or len(thing) != 4 or not is_moment(thing[0]):
        return None
    labels, slopes, goes = [told_moments(part) for part in thing[1:]]
    if labels is None or slopes is None or goes is None:
        return None
    if not labels or list(labels) != list(slopes) or not all([goes[number][0] > 0 for number in goes]):
        return None
    return (lowest(thing[0][0], thing[0][1]), labels, slopes, goes)


def told_phases(thing):
    """A list of phases, told; None for what is none."""
    if not is_list(thing) or len(thing) == 0:
        return None
    found = []
    for part in thing:
        phase = told_phase(part)
        if phase is None or (found and not is_less(found[-1][0], phase[0])):
            return None
        found.append(phase)
    if found[0][0][0] > 0:
        return None
    return found


def told_thing(kind, thing):
    """A thing of a kind as it is told, None for what is none."""
    if kind == "net":
        return thing if isinstance(thing, Net) else None
    if kind == "comers":
        return told_comers(thing) if first_bad_comer(thing) is None else None
    if kind == "curve":
        return plain(thing) if is_curve(thing) else None
    if kind == "schedule":
        return Part(thing).told() if is_part(thing) else None
    return told_phases(thing)
