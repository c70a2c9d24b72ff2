"""Texts of schedules, taken line by line, each of which is so many deep."""

from quickbythen.words import count_in, moment_in


class Open:
    """A schedule of which more may come: its line's word, how often it comes, and the schedules of which it is made."""

    def __init__(self, word, many):
        self.word = word
        self.many = many
        self.inner = []

    def is_open(self):
        """Whether one schedule more may come into it."""
        return self.word == "behind" or not self.inner

    def told(self):
        """The schedule."""
        inner = [part.told() for part in self.inner]
        if self.word == "behind":
            return ("behind", inner)
        return ("again", self.many, inner[0])


class Rate:
    """A schedule of one line: a rate for some beats."""

    def __init__(self, rate, beats):
        self.rate = rate
        self.beats = beats

    def told(self):
        """The schedule."""
        return ("rate", self.rate, self.beats)


class ScheduleReader:
    """The text of a schedule."""

    def __init__(self):
        # Of each depth from 0 on the one into which more may come; the first one is no schedule, but has it.
        self.trail = [Open("again", 1)]

    def take(self, line):
        """Take a line; whether some text goes on so."""
        words = line.lstrip(" ").split(" ")
        blanks = len(line) - len(line.lstrip(" "))
        deep = blanks // 2
        if deep * 2 != blanks or deep < 1 or deep > len(self.trail):
            return False
        # Only the last one can have nothing in it yet.
        if deep < len(self.trail) and not self.trail[-1].inner:
            return False
        if not self.trail[deep - 1].is_open():
            return False
        return self.put(deep, words)

    def put(self, deep, words):
        """Put the schedule that words begin so many deep; whether they begin one."""
        made = None
        if len(words) == 3 and words[0] == "rate":
            rate = moment_in(words[1])
            beats = moment_in(words[2])
            if rate is not None and beats is not None and beats[0] > 0:
                made = Rate(rate, beats)
        elif len(words) == 2 and words[0] == "again":
            many = count_in(words[1])
            if many is not None:
                made = Open("again", many)
        elif words == ["behind"]:
            made = Open("behind", 1)
        if made is None:
            return False
        self.trail = self.trail[:deep]
        self.trail[-1].inner.append(made)
        if isinstance(made, Open):
            self.trail.append(made)
        return True

    def is_whole(self):
        """Whether a text ends here."""
        return len(self.trail[-1].inner) > 0

    def told(self):
        """The schedule."""
        return self.trail[0].inner[0].told()
