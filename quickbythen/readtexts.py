"""Texts read back: the kind and the thing that they tell, or the first line that is bad."""

from quickbythen.deepreader import ScheduleReader
from quickbythen.readers import ComersReader, CurveReader, PhasesReader, net_reader
from quickbythen.refusals import BadText


def reader_for(line):
    """The reader of the texts that begin with a line, None if none does."""
    words = line.split(" ")
    if words[0] == "net":
        return net_reader(words)
    if line == "comers":
        return ComersReader()
    if line == "curve":
        return CurveReader()
    if line == "schedule":
        return ScheduleReader()
    if line == "phases":
        return PhasesReader()
    return None


def read(text):
    """The pair of the kind and the thing of a text; BadText with the first bad line for what is none."""
    if not isinstance(text, str):
        raise BadText(0)
    lines = text.split("\n")
    # Behind the last line feed nothing may stand.
    many = len(lines) - 1
    reader = reader_for(lines[0]) if many > 0 else None
    if reader is None:
        raise BadText(1)
    kind = lines[0].split(" ")[0]
    for index in range(1, many):
        part = lines[index] if kind == "schedule" else lines[index].split(" ")
        if not reader.take(part):
            raise BadText(index + 1)
    if lines[many] != "" or not reader.is_whole():
        raise BadText(many + 1)
    return (kind, reader.told())
