"""Things as texts."""

from quickbythen.refusals import BadKind, BadThing
from quickbythen.things import KINDS, told_thing


def fraction_word(fraction):
    """A told fraction as a word."""
    if fraction[1] == 1:
        return f"{fraction[0]}"
    return f"{fraction[0]}/{fraction[1]}"


def fractions_line(word, fractions):
    """A line of a word and fractions."""
    return " ".join([word] + [fraction_word(fraction) for fraction in fractions])


def net_lines(net):
    """The lines of a net."""
    roads = [f"road {one} {other} {length} {room}" for one, other, length, room in net.roads()]
    return [f"net {net.places()} {net.start()} {net.end()}"] + roads


def curve_lines(curve):
    """The lines of a curve."""
    return ["curve"] + [fractions_line("corner", corner) for corner in curve[0]] + [fractions_line("slope", [curve[1]])]


def schedule_lines(schedule, deep):
    """The lines of a schedule that is so many deep."""
    ahead = "  " * deep
    if schedule[0] == "rate":
        return [ahead + fractions_line("rate", schedule[1:])]
    if schedule[0] == "again":
        return [f"{ahead}again {schedule[1]}"] + schedule_lines(schedule[2], deep + 1)
    found = [ahead + "behind"]
    for part in schedule[1]:
        found = found + schedule_lines(part, deep + 1)
    return found


def phase_lines(phase):
    """The lines of a phase."""
    moment, labels, slopes, goes = phase
    found = [fractions_line("phase", [moment])]
    for number in labels:
        found.append(fractions_line(f"place {number}", [labels[number], slopes[number]]))
    for number in goes:
        found.append(fractions_line(f"goes {number}", [goes[number]]))
    return found


def lines_of(kind, thing):
    """The lines of a told thing of a kind."""
    if kind == "net":
        return net_lines(thing)
    if kind == "comers":
        return ["comers"] + [fractions_line("from", step) for step in thing]
    if kind == "curve":
        return curve_lines(thing)
    if kind == "schedule":
        return ["schedule"] + schedule_lines(thing, 1)
    return ["phases"] + [line for phase in thing for line in phase_lines(phase)]


def write(kind, thing):
    """The text of a thing of a kind."""
    if not isinstance(kind, str) or kind not in KINDS:
        raise BadKind(kind)
    told = told_thing(kind, thing)
    if told is None:
        raise BadThing(thing)
    return "".join([line + "\n" for line in lines_of(kind, told)])
