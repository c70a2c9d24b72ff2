"""Texts of nets, comers, curves and phases, taken line by line.

A reader takes the words of one line after another as long as some text goes on so; what it
was made by is the first line. It is whole if a text may end there, and then tells the thing.
"""

from quickbythen.bends import rise_between, tidied
from quickbythen.nets import Net
from quickbythen.words import count_in, fraction_in, is_rising, moment_in, moments_in, number_in


class NetReader:
    """The text of a net, from its first line on."""

    def __init__(self, places, start, end):
        self.places = places
        self.start = start
        self.end = end
        self.roads = []

    def take(self, words):
        """Take the words of a line; whether some text goes on so."""
        if len(words) != 5 or words[0] != "road":
            return False
        road = (number_in(words[1]), number_in(words[2]), count_in(words[3]), count_in(words[4]))
        if None in road or road[0] == road[1] or max(road[0], road[1]) >= self.places:
            return False
        if self.roads and road <= self.roads[-1]:
            return False
        self.roads.append(road)
        return True

    def is_whole(self):
        """Whether a text ends here."""
        return True

    def told(self):
        """The net."""
        return Net(self.places, self.roads, self.start, self.end)


def net_reader(words):
    """The reader of a net that begins with the words of a line, None if none does."""
    if len(words) != 4:
        return None
    places, start, end = [number_in(word) for word in words[1:]]
    if places is None or start is None or end is None:
        return None
    if places < 2 or start == end or max(start, end) >= places:
        return None
    return NetReader(places, start, end)


class ComersReader:
    """The text of comers."""

    def __init__(self):
        self.steps = []

    def take(self, words):
        """Take the words of a line; whether some text goes on so."""
        if len(words) != 3 or words[0] != "from":
            return False
        step = moments_in(words[1:])
        if step is None or not is_rising([moment for moment, _ in self.steps], step[0]):
            return False
        if self.steps and self.steps[-1][1] == step[1]:
            return False
        self.steps.append((step[0], step[1]))
        return True

    def is_whole(self):
        """Whether a text ends here."""
        return len(self.steps) > 0

    def told(self):
        """The comers."""
        return self.steps


class CurveReader:
    """The text of a curve."""

    def __init__(self):
        self.corners = []
        self.slope = None

    def take(self, words):
        """Take the words of a line; whether some text goes on so."""
        if self.slope is not None:
            return False
        if len(words) == 2 and words[0] == "slope":
            return self.take_slope(fraction_in(words[1]))
        if len(words) == 3 and words[0] == "corner":
            return self.take_corner(moment_in(words[1]), fraction_in(words[2]))
        return False

    def take_corner(self, moment, worth):
        """Take a corner; whether it is one, and the curve bends at the one ahead of it."""
        if moment is None or worth is None or not is_rising([corner[0] for corner in self.corners], moment):
            return False
        if self.corners and not self.is_bent(rise_between(self.corners[-1], (moment, worth))):
            return False
        self.corners.append((moment, worth))
        return True

    def take_slope(self, slope):
        """Take the last slope; whether it is one, and the curve bends at the last corner."""
        if slope is None or not self.corners or not self.is_bent(slope):
            return False
        self.slope = slope
        return True

    def is_bent(self, slope):
        """Whether the curve, if it goes on by a slope, bends at the last corner, or this is the first one."""
        return len(tidied(self.corners, slope)[0]) == len(self.corners)

    def is_whole(self):
        """Whether a text ends here."""
        return self.slope is not None

    def told(self):
        """The curve."""
        return (self.corners, self.slope)


class PhasesReader:
    """The text of phases."""

    def __init__(self):
        self.phases = []

    def take(self, words):
        """Take the words of a line; whether some text goes on so."""
        if len(words) == 2 and words[0] == "phase":
            return self.take_phase(moment_in(words[1]))
        if not self.phases:
            return False
        _, labels, slopes, goes = self.phases[-1]
        number = number_in(words[1]) if len(words) > 2 else None
        worths = moments_in(words[2:])
        if number is None or worths is None:
            return False
        if len(words) == 4 and words[0] == "place" and not goes and number > max(list(labels) + [-1]):
            labels[number] = worths[0]
            slopes[number] = worths[1]
            return True
        if len(words) == 3 and words[0] == "goes" and labels and number > max(list(goes) + [-1]) and worths[0][0] > 0:
            goes[number] = worths[0]
            return True
        return False

    def take_phase(self, moment):
        """Begin a phase; whether one can begin then."""
        if moment is None or not is_rising([phase[0] for phase in self.phases], moment):
            return False
        if self.phases and not self.is_whole():
            return False
        self.phases.append((moment, {}, {}, {}))
        return True

    def is_whole(self):
        """Whether a text ends here."""
        return len(self.phases) > 0 and len(self.phases[-1][1]) > 0

    def told(self):
        """The phases."""
        return self.phases
