"""17: things as texts, and texts read back or refused by their first bad line; and what 17.6 shows of them."""

import unittest
from fractions import Fraction

from quickbythen.curves import plain
from quickbythen.nets import Net
from quickbythen.phases import phases
from quickbythen.readtexts import read
from quickbythen.refusals import BadKind, BadText, BadThing
from quickbythen.schedules import written_out
from quickbythen.written import write
from tests.helpers import (N, NO_FRACTIONS, NO_MOMENTS, ODD, Chance, check_doors, check_error, comers, curve, other_dicts, pair,
                           reversed_dict, swapped, unlowered, with_like_neighbours, with_needless)
from tests.test_phases import BAD_COMERS
from tests.test_schedules import BAD_SCHEDULES, any_schedule
from tests.test_seen import NO_CURVES

AGAIN = ("again", 3, ("behind", [("rate", (4, 1), (3, 2)), ("rate", (0, 1), (1, 1))]))
PHASE = ((0, 1), {0: (0, 1), 2: (5, 2)}, {0: (1, 1), 2: (0, 1)}, {3: (1, 2)})
KINDS = ["net", "comers", "curve", "schedule", "phases"]


def changed(phase, index, part):
    return tuple([part if at == index else one for at, one in enumerate(phase)])


def is_fine(part):
    """Whether a part of a phase is a dict from the same places to moments all the same."""
    return isinstance(part, dict) and set(part) == {0, 2} and all([type(place) is int for place in part]) and all([
        type(one) is tuple and len(one) == 2 and type(one[0]) is int and one[0] >= 0 and one[1] > 0 for one in part.values()])


BAD_PHASES = [thing for thing in ODD] + [[PHASE[:3]], [PHASE + ({},)], PHASE, [PHASE, PHASE], [PHASE, None]] + [
    [changed(PHASE, 0, thing)] for thing in NO_MOMENTS + [(1, 1)]] + [
    [changed(PHASE, 1, thing)] for thing in other_dicts(PHASE[1]) if not is_fine(thing)] + [
    [changed(PHASE, 2, thing)] for thing in other_dicts(PHASE[2]) if not is_fine(thing)] + [
    [changed(PHASE, 1, {}), ], [changed(changed(PHASE, 1, {}), 2, {})], [changed(PHASE, 3, None)], [changed(PHASE, 3, [])],
    [changed(PHASE, 3, {3: (0, 1)})], [changed(PHASE, 3, {-3: (1, 1)})], [changed(PHASE, 3, {True: (1, 1)})],
    [changed(PHASE, 3, {"3": (1, 1)})], [changed(PHASE, 2, {0: (1, 1), 2: (-1, 1)})], [changed(PHASE, 1, {0: (-1, 2), 2: (5, 2)})]]
BAD_THINGS = {"net": [thing for thing in ODD if thing is not N] + [[N], "net 4 0 3\n"], "comers": BAD_COMERS, "curve": NO_CURVES,
              "schedule": BAD_SCHEDULES, "phases": BAD_PHASES}


def any_phases(chance):
    """Phases of no net at all."""
    found, moment = [], Fraction(0)
    for _ in range(chance.number(1, 4)):
        places = sorted(chance.random.sample(range(20), chance.number(1, 4)))
        labels = {place: pair(chance.fraction(0, 40)) for place in places}
        slopes = {place: pair(chance.fraction(0, 9)) for place in places}
        goes = {number: pair(chance.fraction(0, 9) + 1) for number in sorted(chance.random.sample(range(9), chance.number(0, 3)))}
        found.append((pair(moment), labels, slopes, goes))
        moment += Fraction(chance.number(1, 9), chance.number(1, 6))
    return found


def any_things(chance):
    """A thing of each kind, as it is told."""
    net = chance.net(6, 9)
    stream = comers(*[(moment, chance.number(0, 9) + index % 2 * 10) for index, moment in enumerate(chance.moments(4))])
    return {"net": net, "comers": stream, "curve": plain(chance.curve()), "schedule": any_schedule(chance, 4, 9),
            "phases": any_phases(chance)}


def first_bad(text):
    try:
        return None if read(text) else None
    except BadText as error:
        return error.line


class WriteTest(unittest.TestCase):
    def test_lines(self):
        self.assertEqual(write("net", N), "net 4 0 3\nroad 0 1 1 2\nroad 0 2 3 3\nroad 1 2 1 2\nroad 1 3 4 1\nroad 2 3 1 2\n")
        self.assertEqual(write("net", Net(12, [], 11, 0)), "net 12 11 0\n")
        self.assertEqual(write("comers", [((0, 1), (4, 1)), ((1, 1), (8, 2)), ((2, 1), (1, 3))]), "comers\nfrom 0 4\nfrom 2 1/3\n")
        self.assertEqual(write("curve", curve([(0, -1), (1, Fraction(-3, 2)), (3, 0)], Fraction(7, 2))),
                         "curve\ncorner 0 -1\ncorner 1 -3/2\ncorner 3 0\nslope 7/2\n")
        self.assertEqual(write("schedule", AGAIN), "schedule\n  again 3\n    behind\n      rate 4 3/2\n      rate 0 1\n")
        self.assertEqual(write("schedule", ("rate", (6, 4), (2, 2))), "schedule\n  rate 3/2 1\n")
        self.assertEqual(write("phases", [PHASE, changed(changed(PHASE, 0, (14, 4)), 3, {})]),
                         "phases\nphase 0\nplace 0 0 1\nplace 2 5/2 0\ngoes 3 1/2\nphase 7/2\nplace 0 0 1\nplace 2 5/2 0\n")

    def test_back(self):
        chance = Chance(341)
        for _ in range(60):
            things = any_things(chance)
            for kind, thing in things.items():
                text = write(kind, thing)
                self.assertEqual(read(text), (kind, thing))
                self.check_kinds(read(text)[1], thing)
                self.assertEqual(write(*read(text)), text)
                self.assertTrue(text.endswith("\n") and all([" " <= sign <= "~" for line in text.split("\n") for sign in line]))
                for other in KINDS:
                    if other != kind:
                        check_error(self, BadThing, "thing", thing, write, other, thing)

    def check_kinds(self, told, thing):
        """That lists are told as lists, tuples as tuples, within one another."""
        self.assertIs(type(told), type(thing))
        if isinstance(thing, (list, tuple)):
            for one, other in zip(told, thing):
                self.check_kinds(one, other)
        if isinstance(thing, dict):
            self.assertEqual(list(told), list(thing))

    def test_one_text_for_what_means_the_same(self):
        chance = Chance(342)
        for _ in range(40):
            things = any_things(chance)
            for kind in ("comers", "curve", "schedule", "phases"):
                text = write(kind, things[kind])
                self.assertEqual(write(kind, swapped(unlowered(things[kind]))), text)
            self.assertEqual(write("comers", with_like_neighbours(things["comers"])), write("comers", things["comers"]))
            self.assertEqual(write("curve", with_needless(things["curve"])), write("curve", things["curve"]))
            other = [(moment, reversed_dict(labels), reversed_dict(slopes), reversed_dict(goes))
                     for moment, labels, slopes, goes in things["phases"]]
            self.assertEqual(write("phases", other), write("phases", things["phases"]))
            roads = things["net"].roads()
            chance.random.shuffle(roads)
            net = Net(things["net"].places(), [list(road) for road in roads], things["net"].start(), things["net"].end())
            self.assertEqual(write("net", net), write("net", things["net"]))

    def test_unlike_texts(self):
        chance = Chance(343)
        seen = {}
        for _ in range(60):
            for kind, thing in any_things(chance).items():
                text = write(kind, thing)
                self.assertTrue(text not in seen or seen[text] == thing)
                seen[text] = thing
        # Schedules that come to the same otherwise.
        same = [("rate", (1, 1), (2, 1)), ("again", 2, ("rate", (1, 1), (1, 1))), ("behind", [("rate", (1, 1), (2, 1))])]
        self.assertEqual(len({write("schedule", one) for one in same}), 3)
        self.assertEqual(len({str(written_out(one)) for one in same}), 1)

    def test_phases_of_a_course(self):
        for many in (1, 2, 3):
            told = phases(N, comers((0, 4)), many)
            self.assertEqual(read(write("phases", told)), ("phases", told))

    def test_great_numbers(self):
        great = 10 ** 399 + 7
        for thing in (comers((0, great), (Fraction(great, 3), Fraction(1, great))), [((0, 1), (0, 1))]):
            self.assertEqual(read(write("comers", thing)), ("comers", thing))
        bent = curve([(0, -great), (Fraction(1, great), great)], Fraction(-great, 10 ** 398 + 1))
        self.assertEqual(read(write("curve", bent)), ("curve", bent))
        net = Net(great, [(great - 2, great - 1, great, great)], 0, great - 1)
        self.assertEqual(read(write("net", net)), ("net", net))
        often = ("again", great, ("rate", (great, 1), (1, great)))
        self.assertEqual(read(write("schedule", often)), ("schedule", often))

    def test_errors(self):
        for kind in [thing for thing in ODD] + ["Net", "nets", "net ", "phase", "rate", [], ["net"], ("net",)]:
            check_error(self, BadKind, "kind", kind, write, kind, None)
        for kind in KINDS:
            for thing in BAD_THINGS[kind]:
                check_error(self, BadThing, "thing", thing, write, kind, thing)
        check_doors(self, write, ("net", N), [(0, BadKind, "kind", [None, 1, "a"]), (1, BadThing, "thing", [None, 1, "a"])])
        self.assertEqual(write(thing=N, kind="net"), write("net", N))

    def test_kept(self):
        things = [[[0, 1], {1: [3, 1], 0: [4, 2]}, {0: [1, 1], 1: [2, 2]}, {}]]
        self.assertEqual(write("phases", things), "phases\nphase 0\nplace 0 2 1\nplace 1 3 1\n")
        self.assertEqual(things, [[[0, 1], {1: [3, 1], 0: [4, 2]}, {0: [1, 1], 1: [2, 2]}, {}]])


class ReadTest(unittest.TestCase):
    def check_bad(self, text, line):
        check_error(self, BadText, "line", line, read, text)

    def test_no_strings(self):
        for thing in ODD:
            if not isinstance(thing, str):
                self.check_bad(thing, 0)

    def test_cut_anywhere(self):
        """The first lines of a text are bad only behind their end; any sign less at the end makes the last line bad."""
        chance = Chance(344)
        for _ in range(30):
            for kind, thing in any_things(chance).items():
                lines = write(kind, thing).split("\n")[:-1]
                for many in range(len(lines) + 1):
                    part = "".join([line + "\n" for line in lines[:many]])
                    self.assertIn(first_bad(part), (None, many + 1))
                    if many > 0:
                        self.check_bad(part[:-1], many)
                        self.check_bad(part[:-2], many)
                self.assertIsNone(first_bad(part))

    def test_lines_otherwise(self):
        """A line that no text has at this place, after lines that are fine and ahead of any others."""
        chance = Chance(345)
        for _ in range(15):
            for kind, thing in any_things(chance).items():
                lines = write(kind, thing).split("\n")[:-1]
                for at, line in enumerate(lines):
                    for other in self.bad_lines(line):
                        text = "\n".join(lines[:at] + [other] + lines[at + 1:]) + "\n"
                        self.check_bad(text, at + 1)

    def bad_lines(self, line):
        words = line.split(" ")
        found = ["", " ", line + " ", " " + line, line.replace(words[-1], words[-1] + "x"), line + " 1", line.upper(), line + "\t",
                 line.replace(" ", "\t"), line.replace(" ", "  ", 1), "x", "#" + line, line + "\r", " ".join(words[:-1])]
        if words[-1][-1].isdigit():
            found += [" ".join(words[:-1] + [word]) for word in
                      ("0" + words[-1], "+" + words[-1], "-0", "1.0", "1e3", "1_0", "", words[-1] + "/1", words[-1] + "/0", "1/-2",
                       "2/4", "0/3", "1/2/3", "/2", "1/", "--1", "- 1", "one", "1/02")]
        return [other for other in found if other != line]

    def test_a_line_twice(self):
        chance = Chance(346)
        for _ in range(20):
            for kind, thing in any_things(chance).items():
                lines = write(kind, thing).split("\n")[:-1]
                for at, line in enumerate(lines):
                    if line.strip(" ").split(" ")[0] in ("rate", "behind", "again"):
                        continue
                    self.check_bad("\n".join(lines[:at + 1] + lines[at:]) + "\n", at + 2)

    def test_first_lines(self):
        for text in ("", "\n", "x\n", "nets 2 0 1\n", "net\n", "net 2 0\n", "net 1 0 1\n", "net 2 0 2\n", "net 2 2 0\n",
                     "net 2 -1 0\n", "net 2 1 1\n", "net 0 0 1\n", "net 02 0 1\n", "comers 1\n", "Curve\n", "schedules\n",
                     "phases \n", "net 2 0 1", "comers", "\ncomers\n", "net 2 0 1 1\n", "road 0 1 1 1\n", "from 0 1\n"):
            self.check_bad(text, 1)
        for text in ("comers\n", "curve\n", "schedule\n", "phases\n", "net 2 0 1\nx\n", "net 2 0 1\n\n", "net 2 0 1\nroad 0 1 1 1"):
            self.check_bad(text, 2)
        self.assertEqual(read("net 2 0 1\n"), ("net", Net(2, [], 0, 1)))

    def test_nets(self):
        begin = "net 3 0 2\nroad 0 1 2 2\n"
        for line in ("road 0 1 2 2", "road 0 1 2 1", "road 0 1 1 9", "road 0 0 3 3", "road 0 3 1 1", "road 3 1 1 1", "road 1 2 0 1",
                     "road 1 2 1 0", "road 1 2 -1 1", "road 1 2 1", "road 1 2 1 1 1", "roads 1 2 1 1", "net 3 0 2", "road 1 2 1 1/2",
                     "road 1 2 1/2 1", "road 1 -2 1 1", ""):
            self.check_bad(begin + line + "\n", 3)
            self.check_bad(begin + line + "\nx", 3)
        self.assertEqual(read(begin + "road 0 2 1 1\nroad 2 0 1 1\n")[1], Net(3, [(0, 1, 2, 2), (0, 2, 1, 1), (2, 0, 1, 1)], 0, 2))

    def test_comers(self):
        for line in ("from 1 1", "from -1 1", "from 0 -1", "from 0", "from 0 1 1", "fro 0 1", "comers", "from 1/2 1"):
            self.check_bad("comers\n" + line + "\n", 2)
        for line in ("from 0 2", "from 1 1", "from 2 1", "from 1/2 2/2", "from 1/2 -2", "from 4/2 3", "from 1/1 3"):
            self.check_bad("comers\nfrom 0 1\n" + line + "\nfrom 9 9\n", 3)
        self.check_bad("comers\nfrom 0 1\nfrom 3 2\nfrom 5/2 1\n", 4)
        self.check_bad("comers\nfrom 0 1\nfrom 3 2\nfrom 3 1\n", 4)
        self.assertEqual(read("comers\nfrom 0 1\nfrom 1/3 0\n"), ("comers", comers((0, 1), (Fraction(1, 3), 0))))

    def test_curves(self):
        for line in ("corner 1 0", "corner 0", "slope 1", "corner 0 1 1", "corner -1 1", "corner 0 1/1"):
            self.check_bad("curve\n" + line + "\n", 2)
        self.check_bad("curve\ncorner 0 0\n", 3)
        self.check_bad("curve\ncorner 0 0\nslope 1\nslope 1\n", 4)
        self.check_bad("curve\ncorner 0 0\nslope 1\ncorner 1 3\n", 4)
        # Nothing bends at 1: the line behind this corner is the bad one.
        for line in ("slope 1", "corner 2 2", "corner 3/2 3/2"):
            self.check_bad("curve\ncorner 0 0\ncorner 1 1\n" + line + "\nslope 9\n", 4)
        for line in ("slope 0", "corner 2 1", "corner 3/2 -1"):
            self.assertIn(first_bad("curve\ncorner 0 0\ncorner 1 1\n" + line + "\n"), (None, 5))
        self.check_bad("curve\ncorner 0 0\ncorner 1 1\ncorner 1 2\n", 4)
        self.check_bad("curve\ncorner 0 0\ncorner 1 1\ncorner 1/2 2\n", 4)
        # One corner never bends, whatever comes behind it.
        self.assertEqual(read("curve\ncorner 0 -1/2\nslope -1/3\n"), ("curve", ([((0, 1), (-1, 2))], (-1, 3))))

    def test_schedules(self):
        begin = "schedule\n  behind\n    again 2\n"
        for line in ("    rate 1 1", "  rate 1 1", "rate 1 1", "        rate 1 1", "     rate 1 1", "    behind", "  again 2",
                     "      again 0", "      again -1", "      again 1/2", "      again", "      rate 1", "      rate 1 0",
                     "      rate -1 1", "      rate 1 -1", "      rate 1 1 1", "      behind 1", "      Behind", "       rate 1 1",
                     "\t\t\trate 1 1", "      rate  1 1", "      rate 1 1 "):
            self.check_bad(begin + line + "\n", 4)
        full = begin + "      rate 1 1\n"
        self.assertEqual(read(full), ("schedule", ("behind", [("again", 2, ("rate", (1, 1), (1, 1)))])))
        for line in ("      rate 1 1", "      behind", "        rate 1 1", "  rate 1 1", "  behind", "rate 1 1"):
            self.check_bad(full + line + "\n", 5)
        rate = ("rate", (1, 1), (1, 1))
        self.assertEqual(read(full + "    rate 1 1\n    behind\n      rate 1 1\n")[1],
                         ("behind", [("again", 2, rate), rate, ("behind", [rate])]))
        self.check_bad(full + "    behind\n", 6)
        self.check_bad(full + "    behind\n    rate 1 1\n", 6)
        self.check_bad("schedule\n  rate 1 1\n  rate 1 1\n", 3)
        self.check_bad("schedule\n    rate 1 1\n", 2)
        self.check_bad("schedule\nrate 1 1\n", 2)
        self.check_bad("schedule\n rate 1 1\n", 2)
        self.check_bad("schedule\n  again 3\n  rate 1 1\n", 3)

    def test_deep(self):
        rate = ("rate", (1, 1), (1, 1))
        for many in range(60):
            rate = ("again", 2, rate) if many % 2 else ("behind", [rate])
        text = write("schedule", rate)
        self.assertEqual(read(text), ("schedule", rate))
        self.check_bad("\n".join(text.split("\n")[:-2]) + "\n", 62)

    def test_phases(self):
        begin = "phases\nphase 0\n"
        for line in ("phase 1", "goes 0 1", "place 0 1", "place 0 1 1 1", "place -1 1 1", "place 0 -1 1", "place 0 1 -1",
                     "place 0/1 1 1", "x", "phases", "place 1/2 1 1"):
            self.check_bad(begin + line + "\n", 3)
        full = begin + "place 2 1 1\n"
        for line in ("place 2 1 1", "place 1 1 1", "phase 0", "goes 0 0", "goes 0 -1", "goes -1 1", "goes 0", "goes 0 1 1",
                     "goes 0/1 1", "place 3 1/1 1"):
            self.check_bad(full + line + "\n", 4)
        more = full + "place 10 0 0\ngoes 3 1\n"
        for line in ("place 11 1 1", "goes 3 2", "goes 2 2", "phase 0", "phase -1", "phase"):
            self.check_bad(more + line + "\n", 6)
        self.check_bad(more + "phase 1\n", 7)
        self.check_bad(more + "phase 1\nphase 2\n", 7)
        self.check_bad("phases\nphase 1\n", 2)
        self.check_bad("phases\nplace 0 0 0\n", 2)
        self.assertEqual(read(more + "goes 11 1/2\nphase 1/2\nplace 0 0 0\n"), ("phases", [
            ((0, 1), {2: (1, 1), 10: (0, 1)}, {2: (1, 1), 10: (0, 1)}, {3: (1, 1), 11: (1, 2)}),
            ((1, 2), {0: (0, 1)}, {0: (0, 1)}, {})]))

    def test_new(self):
        for kind, thing in any_things(Chance(347)).items():
            text = write(kind, thing)
            told = read(text=text)
            self.assertTrue(type(told) is tuple and len(told) == 2)
            if isinstance(told[1], list):
                told[1].clear()
            self.assertEqual(read(text), (kind, thing))

    def test_example(self):
        text = "schedule\n  again 3\n    behind\n      rate 4 3/2\n      rate 0 1\n"
        self.assertEqual(read(text), ("schedule", AGAIN))
        self.check_bad(text + "    rate 1 1\n", 6)
        self.check_bad("schedule\n  again 3\n    behind\n", 4)
        self.check_bad("comers\nfrom 0 2/2\n", 2)
        self.check_bad("net 2 0 0\n", 1)
        self.check_bad("curve\ncorner 0 0\ncorner 1 1\nslope 1\n", 4)

    def test_within_limits(self):
        rows = "".join(["  " * 2 + "rate " + str(index % 7) + " 59/6\n" for index in range(400)])
        told = read("schedule\n  behind\n" + rows)
        self.assertEqual(len(told[1][1]), 400)
        self.assertEqual(write(*told), "schedule\n  behind\n" + rows)
        self.check_bad("comers\nfrom 0 " + "9" * 400 + "x\n", 2)


if __name__ == "__main__":
    unittest.main()
