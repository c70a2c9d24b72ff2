"""A toll at a road's end by which nobody waits, and nobody has more trouble."""

from quickbythen.bends import tidied
from quickbythen.exact import ZERO, minus, plus, times
from quickbythen.settingout import coming
from quickbythen.wishing import Wishing


def toll(room, length, wishes, early, late):
    """The curve of the beats that are to be paid for coming to the end at a moment."""
    wishing = Wishing(room, length, wishes, early, late)
    wishing.check_soon()
    corners = [(ZERO, ZERO)]
    for marks in wishing.marks():
        for mark in marks:
            if mark[0] != corners[-1][0]:
                corners.append(mark)
    return tidied(corners, ZERO)


def tolled(room, length, wishes, early, late):
    """The setting out by which nobody waits where the toll is paid."""
    wishing = Wishing(room, length, wishes, early, late)
    wishing.check_soon()
    return [coming([minus(marks[0][0], wishing.length), minus(marks[-1][0], wishing.length)], [wishing.room])
            for marks in wishing.marks()]


def paid(room, length, wishes, early, late):
    """What all pay together, drops times beats."""
    wishing = Wishing(room, length, wishes, early, late)
    found = ZERO
    for marks in wishing.marks():
        for index in range(1, len(marks)):
            both = plus(marks[index - 1][1], marks[index][1])
            beats = minus(marks[index][0], marks[index - 1][0])
            found = plus(found, times(times(both, beats), times(wishing.room, (1, 2))))
    return found
