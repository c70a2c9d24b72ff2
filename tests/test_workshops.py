"""18: things by names, promises that are kept, deeds back and on; across sections 6, 7, 9, 10, 11; and 18.7."""

import unittest
from fractions import Fraction

from quickbythen.compared import first_later
from quickbythen.errors import BadMany, NoWay
from quickbythen.gains import first_gain
from quickbythen.nets import Net, ways
from quickbythen.phases import label_at, line_at, phases, rests
from quickbythen.plans import tally
from quickbythen.refusals import (BadName, BadPlan, BadPromise, BadThing, Broken, InUse, NoName, NoNet, NoPlan, NoStream,
                                  NotKept, NotWatched, OtherKind, Watched)
from quickbythen.schedules import written_out
from quickbythen.shown import plan_until
from quickbythen.workshops import Workshop
from tests.helpers import N, ODD, Chance, all_ways, check_error, comers, frac, pair, reached, swapped, unlowered
from tests.test_phases import BAD_COMERS, BAD_MANY
from tests.test_schedules import BAD_SCHEDULES, any_schedule
from tests.test_through import NO_WAY

M = Net(4, [(0, 1, 1, 1), (0, 2, 4, 10), (1, 2, 1, 10), (1, 3, 4, 10), (2, 3, 1, 1)], 0, 3)
L = Net(4, [(0, 1, 1, 1), (0, 2, 4, 10), (1, 3, 4, 10), (2, 3, 1, 1)], 0, 3)
TWO = comers((0, 2))
DAY = ("behind", [("rate", (4, 1), (3, 1)), ("rate", (0, 1), (2, 1))])
BY = ("by", "old", "two", (6, 1), (11, 1), 9)
NO_NAMES = [thing for thing in ODD if thing not in ("a", "ab")] + [
    "A", "aB", "1a", "0", "_a", "a_", "a b", " a", "a ", "abcdefghi", "a-", "a\n", ["a"], ("a",), "\u00e9", "a\u00b2", "a."]
NO_THINGS = [thing for thing in ODD if thing is not N] + [
    ("net", N), (N,), [N], ("comers",), ("comers", TWO, 1), ("Comers", TWO), ("stream", TWO), ("schedule", TWO), ("comers", DAY),
    ("plan",), ("plan", "n"), ("plan", "n", [], 1), ("plan", 1, []), ("plan", None, []), ("plan", "N", []), ("plan", ["n"], []),
    ("plan", N, []), "comers", TWO, DAY] + [("comers", thing) for thing in BAD_COMERS] + [
    ("schedule", thing) for thing in BAD_SCHEDULES[:40]]


def kept_state(shop):
    """All that can be seen of a workshop, to see that nothing changes."""
    names = shop.names()
    return ({name: shop.thing(name) for name in names}, names, shop.watched(), shop.done())


def some_shop():
    """The things of 18.7, and two more."""
    shop = Workshop()
    shop.put("old", L)
    shop.put("new", M)
    shop.put("two", ("comers", TWO))
    shop.put("day", ("schedule", DAY))
    shop.put("n", N)
    shop.put("none", NO_WAY)
    shop.put("all", ("plan", "n", [([0, 2, 4], comers((0, 4)))]))
    shop.put("nobody", ("plan", "none", []))
    return shop


def refused(case, shop, error, name, value, call, *args, **named):
    """That an error is raised with just this, and nothing changes."""
    before, twin = kept_state(shop), shop.twin()
    check_error(case, error, name, value, call, *args, **named)
    case.assertEqual(kept_state(shop), before)
    case.assertTrue(shop == twin)


def raised(call, *args):
    """What a call raises, with what it keeps."""
    try:
        call(*args)
    except Exception as error:
        return (type(error), dict(vars(error)))
    return None


class ThingsTest(unittest.TestCase):
    def test_put_and_told(self):
        shop = Workshop()
        self.assertEqual((shop.names(), shop.watched(), shop.done()), ({}, [], []))
        self.assertIsNone(shop.put("z9", M))
        self.assertEqual(shop.thing("z9"), M)
        shop.put("abcdefg8", ["comers", [[[0, 1], [4, 2]], [[2, 2], [4, 2]], [[6, 2], [0, 5]]]])
        self.assertEqual(shop.thing("abcdefg8"), ("comers", comers((0, 2), (3, 0))))
        shop.put("s", swapped(unlowered(("schedule", DAY))))
        self.assertEqual(shop.thing("s"), ("schedule", DAY))
        shop.put("p", ["plan", "z9", (((0, 3), (((0, 1), (2, 2)),)),)])
        self.assertEqual(shop.thing("p"), ("plan", "z9", [([0, 3], comers((0, 1)))]))
        for name, kinds in (("abcdefg8", [tuple, list, tuple]), ("s", [tuple, tuple, str]), ("p", [tuple, str])):
            told = shop.thing(name)
            self.assertIs(type(told), kinds[0])
            self.assertIs(type(told[1]), kinds[1])
        group = shop.thing("p")[2][0]
        self.assertEqual([type(part) for part in (shop.thing("p")[2], group, group[0], group[1], group[1][0])],
                         [list, tuple, list, list, tuple])
        self.assertEqual(shop.names(), {"abcdefg8": "stream", "p": "plan", "s": "stream", "z9": "net"})
        self.assertEqual(list(shop.names()), ["abcdefg8", "p", "s", "z9"])
        self.assertEqual([shop.users(name) for name in shop.names()], [[], [], [], ["p"]])
        self.assertEqual(shop.done(), ["put"] * 4)

    def test_what_it_meant_ahead(self):
        shop = some_shop()
        shop.put("two", ("schedule", DAY))
        self.assertEqual(shop.thing("two"), ("schedule", DAY))
        shop.put("two", ("comers", comers((0, 1))))
        shop.put("old", M)
        self.assertEqual(shop.thing("old"), M)
        shop.put("all", ("plan", "new", []))
        self.assertEqual((shop.users("n"), shop.users("new")), ([], ["all"]))

    def test_names(self):
        shop = some_shop()
        for name in NO_NAMES:
            refused(self, shop, BadName, "name", name, shop.put, name, None)
            refused(self, shop, BadName, "name", name, shop.put, name, N)
            refused(self, shop, BadName, "name", name, shop.broken_by, name, N)
            refused(self, shop, BadName, "name", name, shop.settle, name, "old", "two", 9)
        for name in ("a", "z", "a0", "abcdefgh", "a1234567"):
            shop.put(name, N)

    def test_no_things(self):
        shop = some_shop()
        for thing in NO_THINGS:
            for call in (shop.put, shop.broken_by):
                refused(self, shop, BadThing, "thing", thing, call, "x", thing)
                refused(self, shop, BadThing, "thing", thing, call, "old", thing)

    def test_plans(self):
        shop = some_shop()
        for call in (shop.put, shop.broken_by):
            for net in ("x", "two", "all"):
                refused(self, shop, NoNet, "name", net, call, "old", ("plan", net, None))
            for plan, index in ((None, 0), (5, 0), ([None], 0), ([([0, 3], TWO), ([0, 3], TWO)], 1), ([([9], TWO)], 0)):
                refused(self, shop, BadPlan, "index", index, call, "old", ("plan", "n", plan))
            refused(self, shop, OtherKind, "kind", "net", call, "old", ("plan", "n", []))
            refused(self, shop, OtherKind, "kind", "net", call, "n", ("plan", "n", []))

    def test_other_kinds(self):
        shop = some_shop()
        kinds = {"net": ("old", L), "stream": ("two", ("comers", TWO)), "plan": ("all", ("plan", "n", []))}
        for kind, (name, _) in kinds.items():
            for other, (_, thing) in kinds.items():
                if kind != other:
                    for call in (shop.put, shop.broken_by):
                        refused(self, shop, OtherKind, "kind", kind, call, name, thing)
        refused(self, shop, OtherKind, "kind", "stream", shop.settle, "two", "old", "two", 9)
        refused(self, shop, OtherKind, "kind", "net", shop.settle, "old", "old", "two", 9)

    def test_net_on_which_plans_stand(self):
        shop = some_shop()
        shop.put("b", ("plan", "n", [([1, 4], comers((0, 1)))]))
        wider = Net(4, [(0, 1, 9, 9), (0, 2, 9, 9), (1, 2, 9, 9), (1, 3, 9, 9), (2, 3, 9, 9)], 0, 3)
        # Of these 0, 2, 4 stays a way, 1, 4 does not; of the next one it is the other way about.
        ring = Net(4, [(0, 1, 1, 1), (1, 0, 1, 1), (1, 2, 1, 1), (1, 3, 1, 1), (2, 3, 1, 1)], 0, 3)
        across = Net(4, [(0, 1, 1, 1), (0, 2, 1, 1), (1, 3, 1, 1), (2, 1, 1, 1), (2, 3, 1, 1)], 0, 3)
        for call in (shop.put, shop.broken_by):
            refused(self, shop, NoPlan, "name", "all", call, "n", Net(4, N.roads()[:4], 0, 3))
            refused(self, shop, NoPlan, "name", "b", call, "n", ring)
            refused(self, shop, NoPlan, "name", "all", call, "n", across)
        self.assertEqual(shop.broken_by("n", wider), [])
        shop.put("n", wider)
        self.assertEqual(shop.users("n"), ["all", "b"])
        # A plan without groups is one of any net.
        shop.put("none", Net(3, [(0, 1, 1, 1)], 2, 1))

    def test_settle(self):
        shop = some_shop()
        self.assertIsNone(shop.settle("ways", "old", "two", 9))
        self.assertEqual(shop.thing("ways"), ("plan", "old", plan_until(L, TWO, 9)[0]))
        shop.settle("ways", "n", "day", 2)
        self.assertEqual(shop.thing("ways"), ("plan", "n", plan_until(N, written_out(DAY), 2)[0]))
        self.assertEqual(shop.done()[-2:], ["settle", "settle"])
        for net in ODD + ["two", "all", "x"]:
            refused(self, shop, NoNet, "name", net, shop.settle, None, net, None, None)
        for stream in ODD + ["old", "all", "x"]:
            refused(self, shop, NoStream, "name", stream, shop.settle, None, "old", stream, None)
        for many in BAD_MANY:
            refused(self, shop, BadMany, "many", many, shop.settle, None, "none", "two", many)
        refused(self, shop, NoWay, "args", (), shop.settle, None, "none", "two", 9)
        refused(self, shop, BadName, "name", "x y", shop.settle, "x y", "old", "two", 9)

    def test_take(self):
        shop = some_shop()
        shop.put("a", ("plan", "n", []))
        for name in [thing for thing in ODD if thing != "a"] + ["x", "A"]:
            for call in (shop.take, shop.thing, shop.users):
                refused(self, shop, NoName, "name", name, call, name)
            refused(self, shop, NoName, "name", name, shop.moved_by, name, None, None)
        refused(self, shop, InUse, "user", "a", shop.take, "n")
        self.assertIsNone(shop.take("a"))
        refused(self, shop, InUse, "user", "all", shop.take, "n")
        calm = ("calm", "all", (1, 1))
        shop.watch(calm)
        shop.watch(("rests", "n", "two", 9))
        refused(self, shop, InUse, "user", "all", shop.take, "n")
        refused(self, shop, InUse, "user", calm, shop.take, "all")
        refused(self, shop, InUse, "user", ("rests", "n", "two", 9), shop.take, "two")
        shop.unwatch(calm)
        shop.take("all")
        refused(self, shop, InUse, "user", ("rests", "n", "two", 9), shop.take, "n")
        shop.unwatch(["rests", "n", "two", 9])
        shop.take("n")
        shop.take("two")
        self.assertEqual(sorted(shop.names()), ["day", "new", "nobody", "none", "old"])
        shop.put("n", ("comers", TWO))
        self.assertEqual(shop.names()["n"], "stream")

    def test_passed_is_kept_and_told_is_new(self):
        rates, way = [[[0, 1], [2, 1]]], [0, 3]
        plan = [[way, rates]]
        schedule = ["behind", [["rate", [1, 1], [2, 1]]]]
        shop = Workshop()
        shop.put("n", M)
        shop.put("c", ["comers", rates])
        shop.put("s", ["schedule", schedule])
        shop.put("p", ["plan", "n", plan])
        wanted = kept_state(shop)
        rates.append([[1, 1], [5, 1]])
        way.clear()
        schedule[1].clear()
        self.assertEqual(kept_state(shop), wanted)
        for name in ("c", "s", "p"):
            told = shop.thing(name)
            for part in (told[1], told[-1]):
                if isinstance(part, list):
                    part.clear()
        shop.thing("s")[1][1].clear()
        shop.thing("p")[2][0][0].clear()
        shop.names().clear()
        shop.users("n").clear()
        shop.watched().append(1)
        shop.done().clear()
        self.assertEqual(kept_state(shop), wanted)
        promise = ["by", "n", "c", [6, 1], [99, 1], 9]
        shop.watch(promise)
        promise[3].append(1)
        self.assertEqual(shop.watched(), [("by", "n", "c", (6, 1), (99, 1), 9)])


class PromisesTest(unittest.TestCase):
    def setUp(self):
        self.shop = some_shop()

    def check_shown(self, promise, holds, thing):
        """That it is a promise, by lists and tuples, whatever its fractions' terms, and what shows it."""
        before = kept_state(self.shop)
        for one in (promise, swapped(promise), unlowered(promise) if promise[0] != "line" else promise):
            self.assertIs(self.shop.is_promise(one), True)
            self.assertIs(self.shop.holds(one), holds)
            told = self.shop.shown(one)
            self.assertEqual(told, (holds, thing))
            self.assertTrue(type(told) is tuple and type(told[0]) is bool)
        self.assertEqual(kept_state(self.shop), before)

    def test_by(self):
        for moment in (0, 1, Fraction(7, 3), 5):
            label = label_at(L, TWO, 3, pair(moment), 9)
            for more, holds in ((0, True), (Fraction(1, 99), True), (Fraction(-1, 99), False), (10 ** 20, True)):
                self.check_shown(("by", "old", "two", pair(moment), pair(frac(label) + more), 9), holds, label)
        self.check_shown(("by", "new", "two", (1, 1), (99, 1), 1), True, (5, 1))
        self.check_shown(("by", "new", "two", (3, 1), (99, 1), 1), False, None)
        self.check_shown(("by", "n", "day", (3, 1), (9, 1), 9), True, (9, 1))

    def test_rests(self):
        for name, net in (("old", L), ("new", M), ("n", N)):
            for stream, steps in (("two", TWO), ("day", written_out(DAY))):
                for many in (1, 2, 3, 9):
                    number = rests(net, steps, many)
                    self.check_shown(("rests", name, stream, many), number is not None, number)

    def test_line(self):
        # Both roads at the ends of the old net let in one a beat, and one a beat comes to each: no line; in the new one there is.
        self.check_shown(("line", "old", "two", 0, (0, 1), 9), True, (0, 1))
        self.check_shown(("line", "new", "two", 0, (2, 1), 9), True, (2, 1))
        self.check_shown(("line", "new", "two", 0, (199, 100), 9), False, (2, 1))
        self.check_shown(("line", "new", "two", 0, (2, 1), 2), False, None)
        # Of day's drops the last one, nearly, finds four in line at road 4 of N, though more is there for nobody later.
        self.check_shown(("line", "n", "day", 4, (4, 1), 9), True, (4, 1))
        self.check_shown(("line", "n", "day", 4, (399, 100), 9), False, (4, 1))
        self.shop.put("four", ("comers", comers((0, 4))))
        self.check_shown(("line", "n", "four", 4, (10 ** 30, 1), 9), False, None)
        self.check_shown(("line", "n", "four", 0, (2, 1), 9), True, (2, 1))
        self.shop.put("nil", ("comers", comers((0, 0))))
        self.check_shown(("line", "n", "nil", 4, (0, 1), 1), True, (0, 1))

    def test_line_by_words(self):
        chance = Chance(351)
        found = {}
        for _ in range(60):
            net, steps = chance.net(5, 7), chance.comers(3, 9)
            road = chance.random.choice([number for number, one in enumerate(net.roads()) if one[0] in reached(net)])
            self.shop.put("net", net)
            self.shop.put("some", ("comers", steps))
            holds, greatest = self.shop.shown(("line", "net", "some", road, (1, 1), 30))
            wanted = self.greatest_by_words(net, steps, road)
            self.assertEqual(greatest, wanted)
            self.assertIs(holds, wanted is not None and frac(wanted) <= 1)
            found[(holds, wanted is None)] = True
        self.assertEqual(len(found), 3)

    def greatest_by_words(self, net, steps, road):
        """By lines at the begins of phases, just ahead of their ends, and far behind all, where drops set out."""
        if rests(net, steps, 30) is None:
            return None
        told = phases(net, steps, 30)
        begins = [frac(phase[0]) for phase in told]
        most = Fraction(0)
        for index, (phase, begin) in enumerate(zip(told, begins)):
            if phase[3]:
                far = begins[index + 1] if index + 1 < len(told) else begin + 10 ** 9
                first, last = [frac(line_at(net, steps, road, pair(moment), 30)) for moment in (begin, far)]
                if index + 1 == len(told) and last > first:
                    return None
                most = max(most, first, last)
        return pair(most)

    def test_never_later(self):
        for one, first in (("old", L), ("new", M), ("n", N)):
            for other, second in (("old", L), ("new", M), ("n", N)):
                later = first_later(first, TWO, second, TWO, 9)
                self.check_shown(("never later", one, other, "two", 9), later is None, later)

    def test_calm(self):
        for until in ((1, 1), (3, 2), (16, 1)):
            gain = first_gain(N, [([0, 2, 4], comers((0, 4)))], until)
            self.check_shown(("calm", "all", until), gain is None, gain)
        self.check_shown(("calm", "nobody", (16, 1)), True, None)
        told = self.shop.shown(("calm", "all", (16, 1)))[1]
        told[2].clear()
        self.assertEqual(self.shop.shown(("calm", "all", (16, 1)))[1], ((1, 1), 0, [1, 4]))

    def test_there(self):
        for moment in (0, 3, Fraction(11, 2), 16):
            heap = tally(N, [([0, 2, 4], comers((0, 4)))], pair(moment))[3]
            for more, holds in ((0, True), (Fraction(1, 99), False), (10 ** 30, False)):
                self.check_shown(("there", "all", pair(frac(heap) + more), pair(moment)), holds, heap)
        self.check_shown(("there", "nobody", (0, 1), (9, 1)), True, (0, 1))

    def test_any_object(self):
        good = [("by", "old", "two", (6, 1), (11, 1), 9), ("rests", "old", "day", 3), ("line", "old", "two", 0, (1, 1), 9),
                ("never later", "old", "new", "two", 9), ("calm", "all", (9, 1)), ("there", "all", (1, 1), (9, 1))]
        bad = [thing for thing in ODD] + [("By",) + good[0][1:], ("never", "old", "new", "two", 9)]
        for promise in good:
            self.assertIs(self.shop.is_promise(promise), True)
            bad += [promise[:-1], promise + (1,), promise[1:], [list(promise)], {1: promise}, promise[::-1]]
            for at in range(len(promise)):
                for other in ODD + ["x", "none", "old", "two", "all", -1, 10 ** 6, (-1, 1), (1, 0)]:
                    changed = promise[:at] + (other,) + promise[at + 1:]
                    if not self.is_fine(promise, at, other):
                        bad.append(changed)
                    else:
                        self.assertIs(self.shop.is_promise(changed), True, changed)
        for thing in bad:
            self.assertIs(self.shop.is_promise(thing), False, thing)
        for thing in bad[::7] + [None, (), "by"]:
            for call in (self.shop.holds, self.shop.shown, self.shop.watch):
                refused(self, self.shop, BadPromise, "promise", thing, call, thing)

    def is_fine(self, promise, at, other):
        """Whether another part in a promise makes a promise all the same."""
        part = promise[at]
        if part in ("old", "new"):
            return isinstance(other, str) and other in ("old", "new", "n")
        if part in ("two", "day"):
            return isinstance(other, str) and other in ("two", "day")
        if part == "all":
            return isinstance(other, str) and other in ("all", "nobody")
        if isinstance(part, tuple):
            is_pair = isinstance(other, (list, tuple)) and len(other) == 2 and all([type(one) is int for one in other])
            return is_pair and other[0] >= 0 and other[1] > 0
        if isinstance(part, int) and promise[0] == "line" and at == 3:
            return type(other) is int and 0 <= other < 4
        if isinstance(part, int):
            return type(other) is int and other > 0
        return False

    def test_roads_and_nets_of_promises(self):
        # A road whose begin can not be come to; a net without a way.
        self.shop.put("far", Net(4, [(0, 1, 1, 1), (2, 1, 1, 1)], 0, 1))
        self.assertIs(self.shop.is_promise(("line", "far", "two", 0, (0, 1), 1)), True)
        self.assertIs(self.shop.is_promise(("line", "far", "two", 1, (0, 1), 1)), False)
        self.assertIs(self.shop.is_promise(("never later", "old", "none", "two", 1)), False)
        self.assertIs(self.shop.is_promise(("never later", "none", "old", "two", 1)), False)
        self.assertIs(self.shop.is_promise(("there", "nobody", (0, 1), (1, 1))), True)


class WatchTest(unittest.TestCase):
    def test_watch(self):
        shop = some_shop()
        self.assertIsNone(shop.watch(BY))
        self.assertEqual(shop.watched(), [BY])
        for same in (BY, list(BY), swapped(BY)):
            refused(self, shop, Watched, "promise", same, shop.watch, same)
        # The same promise with fractions otherwise is another one.
        shop.watch(["by", "old", "two", [12, 2], [11, 1], 9])
        self.assertEqual(shop.watched(), [BY, ("by", "old", "two", (12, 2), (11, 1), 9)])
        self.assertEqual([type(part) for part in shop.watched()[1]], [str, str, str, tuple, tuple, int])
        late = ("by", "old", "two", (6, 1), (109, 10), 9)
        refused(self, shop, NotKept, "promise", late, shop.watch, late)
        for thing in ODD + [late, BY[:5], BY[:5] + (True,), ("rests", "old", "two", 1), ("by", "old", "two", (18, 3), (11, 1), 9)]:
            refused(self, shop, NotWatched, "promise", thing, shop.unwatch, thing)
        self.assertIsNone(shop.unwatch(swapped(BY)))
        self.assertEqual(shop.watched(), [("by", "old", "two", (12, 2), (11, 1), 9)])
        shop.watch(BY)
        self.assertEqual(shop.watched(), [("by", "old", "two", (12, 2), (11, 1), 9), BY])
        self.assertEqual(shop.done()[-4:], ["watch", "watch", "unwatch", "watch"])

    def test_true_is_no_one(self):
        shop = some_shop()
        rest = ("rests", "old", "two", 1)
        shop.watch(rest)
        for other in (("rests", "old", "two", True), ("rests", "old", "two", (1,))):
            refused(self, shop, NotWatched, "promise", other, shop.unwatch, other)
            refused(self, shop, BadPromise, "promise", other, shop.watch, other)
        line = ("line", "old", "two", 0, (0, 1), 1)
        shop.watch(line)
        for other in (("line", "old", "two", False, (0, 1), 1), ("line", "old", "two", 0, (False, 1), 1),
                      ("line", "old", "two", 0, (0, True), 1)):
            refused(self, shop, NotWatched, "promise", other, shop.unwatch, other)
        shop.unwatch(line)

    def test_broken(self):
        shop = some_shop()
        shop.watch(BY)
        rest = ("rests", "old", "two", 2)
        shop.watch(rest)
        for call, thing in (("old", M), ("two", ("comers", comers((0, 9))))):
            broken = shop.broken_by(call, thing)
            self.assertEqual(broken[0], BY)
            refused(self, shop, Broken, "promise", BY, shop.put, call, thing)
        self.assertEqual(shop.broken_by("old", M), [BY, rest])
        # What a promise does not name may become anything; what keeps it, too.
        shop.put("new", N)
        shop.put("old", Net(4, L.roads() + [(0, 3, 5, 9)], 0, 3))
        self.assertEqual(shop.broken_by("two", ("comers", comers((0, 1)))), [])
        # A net without a way: both are no promises any more.
        self.assertEqual(shop.broken_by("old", NO_WAY), [BY, rest])
        refused(self, shop, Broken, "promise", BY, shop.put, "old", NO_WAY)

    def test_broken_plans(self):
        shop = some_shop()
        there = ("there", "all", (6, 1), (6, 1))
        shop.watch(there)
        shop.watch(("calm", "nobody", (9, 1)))
        slow = Net(4, [(0, 1, 1, 1)] + N.roads()[1:], 0, 3)
        self.assertEqual(shop.broken_by("n", slow), [there])
        refused(self, shop, Broken, "promise", there, shop.put, "n", slow)
        refused(self, shop, Broken, "promise", there, shop.put, "all", ("plan", "n", []))
        shop.put("few", ("comers", comers((0, 1))))
        refused(self, shop, Broken, "promise", there, shop.settle, "all", "n", "few", 1)
        shop.settle("all", "n", "two", 1)
        self.assertEqual(shop.broken_by("all", ("plan", "n", [([0, 2, 4], comers((0, 5)))])), [])
        shop.put("all", ("plan", "n", [([0, 2, 4], comers((0, 5)))]))
        # That a plan is none any more comes ahead of broken promises.
        refused(self, shop, NoPlan, "name", "all", shop.put, "n", Net(2, [], 0, 1))
        refused(self, shop, NoPlan, "name", "all", shop.broken_by, "n", Net(2, [], 0, 1))

    def test_road_that_is_none_any_more(self):
        shop = some_shop()
        line = ("line", "old", "two", 3, (9, 1), 9)
        shop.watch(line)
        fewer = Net(4, L.roads()[:3], 0, 3)
        self.assertEqual(shop.broken_by("old", fewer), [line])
        self.assertEqual(raised(shop.put, "old", fewer), (Broken, {"promise": line}))

    def test_what_is_watched_holds_at_any_time(self):
        chance = Chance(352)
        words = {}
        for _ in range(12):
            shop = Workshop()
            for name in "ab":
                shop.put(name, chance.net(3, 4))
            for name in "de":
                shop.put(name, ("comers", chance.comers(2, 4)))
            for _ in range(40):
                before = kept_state(shop)
                error = raised(self.any_deed(chance, shop))
                if error is not None:
                    self.assertEqual(kept_state(shop), before)
                    words[error[0]] = True
                for promise in shop.watched():
                    self.assertIs(shop.holds(promise), True)
                self.assertEqual(len(shop.done()) >= len(shop.watched()), True)
        self.assertLessEqual({Broken, InUse, NoNet, OtherKind, NotKept, BadPromise, NoName}, set(words))

    def any_deed(self, chance, shop):
        """Some deed, with things that are there or not."""
        name = chance.random.choice(["a", "b", "c", "d", "f"])
        nets, plans, streams = ["a", "b"], ["c"], ["d", "e"]
        net, stream = chance.random.choice(nets), chance.random.choice(streams)
        small = chance.net(3, 4)
        plan = [(way, chance.comers(2, 4)) for way in all_ways(small)[:1]]
        moment, late = pair(chance.fraction(0, 9)), pair(chance.fraction(0, 30))
        promise = chance.random.choice([
            ("by", net, stream, moment, late, 9), ("rests", net, stream, 9), ("line", net, stream, 0, late, 9),
            ("never later", "a", "b", stream, 9), ("calm", "c", moment), ("there", "c", moment, late)])
        thing = chance.random.choice([small, small, ("comers", chance.comers(2, 4)), ("plan", net, plan)])
        return chance.random.choice([
            lambda: shop.put(chance.random.choice(nets), small), lambda: shop.put(stream, ("comers", chance.comers(2, 4))),
            lambda: shop.put(name, thing), lambda: shop.settle("c", net, stream, 3), lambda: shop.take(name),
            lambda: shop.watch(promise), lambda: shop.watch(promise), lambda: shop.watch(promise),
            lambda: shop.unwatch(chance.random.choice(shop.watched() or [promise])), shop.undo, shop.redo])


class ChangesTest(unittest.TestCase):
    def test_broken_by_is_what_a_put_does(self):
        chance = Chance(353)
        found = {}
        for _ in range(40):
            shop = Workshop()
            shop.put("a", chance.net(4, 5))
            shop.put("d", ("comers", chance.comers(2, 5)))
            shop.put("e", ("comers", chance.comers(2, 5)))
            for _ in range(6):
                net, stream = shop.thing("a"), shop.thing("d")[1]
                moment = pair(chance.fraction(0, 9))
                label = label_at(net, stream, net.end(), moment, 9)
                many = len(phases(net, stream, 9))
                for promise in (("by", "a", "d", moment, label, 9), ("rests", "a", "d", many), ("line", "a", "e", 0, (5, 1), 9)):
                    if shop.is_promise(promise) and shop.holds(promise) and promise not in shop.watched():
                        shop.watch(promise)
                name, thing = chance.random.choice([("a", chance.net(4, 5)), ("d", ("comers", chance.comers(2, 5))),
                                                    ("e", ("comers", comers((0, 9))))])
                broken = shop.broken_by(name, thing)
                bare = Workshop()
                for other in shop.names():
                    bare.put(other, thing if other == name else shop.thing(other))
                wanted = [promise for promise in shop.watched() if not (bare.is_promise(promise) and bare.holds(promise))]
                self.assertEqual(broken, wanted)
                error = raised(shop.put, name, thing)
                self.assertEqual(error, (Broken, {"promise": wanted[0]}) if wanted else None)
                found[len(wanted) > 1] = True
        self.assertEqual(len(found), 2)

    def test_moved_by(self):
        shop = some_shop()
        shop.put("few", ("comers", comers((0, 1))))
        before = kept_state(shop)
        told = shop.moved_by("old", M, 9)
        self.assertEqual(told, {"day": first_later(L, written_out(DAY), M, written_out(DAY), 9), "few": None, "two": (2, 1)})
        self.assertEqual(list(told), ["day", "few", "two"])
        told.clear()
        self.assertEqual(shop.moved_by("old", L, 9), {"day": None, "few": None, "two": None})
        self.assertEqual(kept_state(shop), before)
        for name, kind in (("two", "stream"), ("day", "stream"), ("all", "plan")):
            refused(self, shop, OtherKind, "kind", kind, shop.moved_by, name, None, None)
        for net in ODD + ["old", ("net", M)]:
            if net is not N:
                refused(self, shop, BadThing, "thing", net, shop.moved_by, "none", net, None)
        for many in BAD_MANY:
            refused(self, shop, BadMany, "many", many, shop.moved_by, "none", M, many)
        refused(self, shop, NoWay, "args", (), shop.moved_by, "none", M, 9)
        refused(self, shop, NoWay, "args", (), shop.moved_by, "old", NO_WAY, 9)
        bare = Workshop()
        bare.put("n", N)
        self.assertEqual(bare.moved_by("n", M, 9), {})
        refused(self, bare, NoWay, "args", (), bare.moved_by, "n", NO_WAY, 9)

    def test_chains(self):
        """More roads, wider rooms, shorter lengths in a chain: nobody is moved, and no "by" is broken that is known."""
        chance = Chance(354)
        for _ in range(40):
            places = chance.number(2, 4)
            roads = [(at, at + 1, chance.number(2, 5), chance.number(1, 4)) for at in range(places - 1)]
            better = [(one, other, length - chance.number(0, 1), room + chance.number(0, 2)) for one, other, length, room in roads]
            better += [(at, at + 1, chance.number(1, 6), 1) for at in range(places - 1) if chance.number(0, 1)]
            net, other = Net(places, roads, 0, places - 1), Net(places, sorted(set(better)), 0, places - 1)
            shop = Workshop()
            shop.put("n", net)
            shop.put("s", ("comers", chance.comers(3, 9)))
            self.assertEqual(shop.moved_by("n", other, 9), {"s": None})
            for moment in (0, 1, 4, 9):
                label = label_at(net, shop.thing("s")[1], places - 1, (moment, 1), 9)
                if label is not None:
                    shop.watch(("by", "n", "s", (moment, 1), label, 9))
            for promise in shop.broken_by("n", other):
                self.assertIsNone(label_at(other, shop.thing("s")[1], places - 1, promise[3], 9))


class BackTest(unittest.TestCase):
    def deeds(self):
        """A workshop, and what is seen of it ahead of each deed and behind the last one."""
        shop = Workshop()
        seen = [kept_state(shop)]
        for deed in (lambda: shop.put("old", L), lambda: shop.put("two", ("comers", TWO)), lambda: shop.watch(BY),
                     lambda: shop.settle("ways", "old", "two", 9), lambda: shop.put("old", Net(4, L.roads() + [(3, 0, 1, 1)], 0, 3)),
                     lambda: shop.take("ways"), lambda: shop.unwatch(BY), lambda: shop.take("two")):
            deed()
            seen.append(kept_state(shop))
        return shop, seen

    def test_back_and_on(self):
        shop, seen = self.deeds()
        words = ["put", "put", "watch", "settle", "put", "take", "unwatch", "take"]
        self.assertEqual(shop.done(), words)
        for _ in range(2):
            for at in range(len(words) - 1, -1, -1):
                self.assertEqual(shop.undo(), words[at])
                self.assertEqual(kept_state(shop), seen[at])
            self.assertIsNone(shop.undo())
            self.assertIsNone(shop.undo())
            self.assertEqual(kept_state(shop), seen[0])
            self.assertTrue(shop == Workshop())
            for at, word in enumerate(words):
                self.assertEqual(shop.redo(), word)
                self.assertEqual(kept_state(shop), seen[at + 1])
            self.assertIsNone(shop.redo())
            self.assertEqual(kept_state(shop), seen[-1])

    def test_new_deed_ends_what_could_be_done_again(self):
        shop, seen = self.deeds()
        for _ in range(5):
            shop.undo()
        self.assertEqual(kept_state(shop), seen[3])
        self.assertEqual(raised(shop.put, "x y", N)[0], BadName)
        self.assertEqual(raised(shop.watch, BY)[0], Watched)
        self.assertEqual(shop.redo(), "settle")
        shop.undo()
        shop.put("n", N)
        self.assertIsNone(shop.redo())
        self.assertEqual(shop.done(), ["put", "put", "watch", "put"])
        self.assertEqual([shop.undo() for _ in range(5)], ["put", "watch", "put", "put", None])
        self.assertEqual([shop.redo() for _ in range(5)], ["put", "put", "watch", "put", None])
        self.assertEqual(shop.thing("n"), N)

    def test_twin(self):
        shop, seen = self.deeds()
        shop.undo()
        shop.undo()
        twin = shop.twin()
        self.assertIs(type(twin), Workshop)
        self.assertTrue(twin == shop and twin is not shop)
        self.assertEqual(kept_state(twin), kept_state(shop))
        twin.put("n", N)
        self.assertEqual(kept_state(shop), seen[6])
        self.assertFalse(twin == shop)
        self.assertEqual([shop.redo(), shop.redo(), shop.redo()], ["unwatch", "take", None])
        self.assertIsNone(twin.redo())
        self.assertEqual([twin.undo() for _ in range(8)], ["put", "take", "put", "settle", "watch", "put", "put", None])
        self.assertEqual(kept_state(shop), seen[8])
        other = shop.twin()
        shop.undo()
        self.assertEqual(kept_state(other), seen[8])
        self.assertEqual(other.undo(), "take")

    def test_trial(self):
        shop, seen = self.deeds()
        shop.undo()
        shop.undo()
        before = kept_state(shop)

        def work(same):
            self.assertIs(same, shop)
            same.put("n", N)
            same.unwatch(BY)
            same.undo()
            same.take("n")
            self.assertEqual(same.trial(lambda inner: [inner.put("z", M), inner.names(), inner.trial(self.deep)][1])["z"], "net")
            self.assertNotIn("z", same.names())
            return (same.names(), same.done())

        told = shop.trial(work)
        self.assertEqual(told, ({"old": "net", "two": "stream"}, before[3] + ["put", "take"]))
        self.assertEqual(kept_state(shop), before)
        self.assertEqual([shop.redo(), shop.redo(), shop.redo()], ["unwatch", "take", None])
        self.assertEqual(kept_state(shop), seen[8])
        self.assertEqual(shop.undo(), "take")

    def deep(self, shop):
        while shop.undo() is not None:
            pass
        self.assertEqual(shop.names(), {})
        return shop.redo()

    def test_trial_that_an_error_leaves(self):
        class Own(Exception):
            pass

        shop, seen = self.deeds()
        shop.undo()
        before = kept_state(shop)

        def fail(same):
            same.put("n", N)
            raise Own("x")

        def wrong(same):
            same.undo()
            same.take("nothing")

        def within(same):
            same.put("m", M)
            same.trial(fail)

        for work, error in ((fail, Own), (wrong, NoName), (within, Own)):
            with self.assertRaises(error):
                shop.trial(work)
            self.assertEqual(kept_state(shop), before)
        self.assertEqual(shop.redo(), "take")
        self.assertEqual(kept_state(shop), seen[8])
        self.assertIsNone(shop.trial(lambda same: None))

    def test_equal(self):
        shop, twin = some_shop(), some_shop()
        self.assertTrue(shop == twin)
        self.assertFalse(shop != twin)
        for thing in ODD:
            self.assertFalse(shop == thing)
        # Whatever deeds there were, and whatever terms fractions had.
        twin.put("x", N)
        twin.take("x")
        twin.put("two", ["comers", [[[0, 3], [4, 2]], [[5, 1], [2, 1]]]])
        twin.put("old", Net(4, L.roads()[::-1], 0, 3))
        self.assertTrue(shop == twin)
        for name, thing in (("two", ("comers", comers((0, 3)))), ("new", L), ("x", N), ("all", ("plan", "n", [])),
                            ("two", ("schedule", ("rate", (2, 1), (5, 1))))):
            twin.put(name, thing)
            self.assertFalse(shop == twin)
            twin.undo()
            self.assertTrue(shop == twin)
        # The same comers by a schedule are another thing.
        shop.put("two", ("comers", written_out(DAY)))
        twin.put("two", ("schedule", DAY))
        self.assertFalse(shop == twin)
        self.assertEqual(shop.shown(("rests", "old", "two", 9)), twin.shown(("rests", "old", "two", 9)))

    def test_equal_by_watched(self):
        shop, twin = some_shop(), some_shop()
        rest = ("rests", "old", "two", 1)
        shop.watch(BY)
        shop.watch(rest)
        twin.watch(rest)
        self.assertFalse(shop == twin)
        twin.watch(list(BY))
        self.assertFalse(shop == twin)
        twin.unwatch(rest)
        twin.watch(rest)
        self.assertTrue(shop == twin)

    def test_sixty_deeds(self):
        chance = Chance(355)
        shop = Workshop()
        for name in "abcd":
            shop.put(name, chance.net(5, 7))
            shop.put("s" + name, ("schedule", any_schedule(chance, 2, 1)))
            shop.settle("p" + name, name, "s" + name, 3)
        for name in "abcd":
            for promise in (("by", name, "s" + name, (16, 1), (10 ** 9, 1), 9), ("there", "p" + name, (0, 1), (16, 1))):
                if shop.holds(promise):
                    shop.watch(promise)
        while len(shop.done()) < 60:
            shop.put("s" + chance.random.choice("abcd"), ("schedule", any_schedule(chance, 2, 1)))
        seen = kept_state(shop)
        self.assertEqual(len([shop.undo() for _ in range(60)]), 60)
        self.assertIsNone(shop.undo())
        self.assertTrue(shop == Workshop())
        for _ in range(60):
            shop.redo()
        self.assertEqual(kept_state(shop), seen)


class ExampleTest(unittest.TestCase):
    def test_example(self):
        shop = Workshop()
        shop.put("old", L)
        shop.put("new", M)
        shop.put("two", ("comers", [((0, 1), (2, 1))]))
        self.assertEqual(shop.shown(BY), (True, (11, 1)))
        self.assertEqual(shop.shown(("never later", "old", "new", "two", 9)), (False, (2, 1)))
        shop.watch(BY)
        self.assertEqual(shop.broken_by("old", M), [BY])
        refused(self, shop, Broken, "promise", BY, shop.put, "old", M)
        self.assertEqual(shop.moved_by("old", M, 9), {"two": (2, 1)})
        shop.settle("ways", "old", "two", 9)
        self.assertEqual([kind for kind, _, _ in [shop.thing("ways")]], ["plan"])
        self.assertIs(shop.holds(("calm", "ways", (16, 1))), True)
        self.assertIs(shop.holds(("there", "ways", (4, 1), (7, 1))), True)
        refused(self, shop, InUse, "user", "ways", shop.take, "old")

    def test_by_names(self):
        shop = Workshop()
        shop.put(thing=L, name="old")
        shop.put(thing=("comers", TWO), name="two")
        shop.settle(many=9, stream="two", net="old", name="ways")
        self.assertEqual(shop.thing(name="old"), L)
        self.assertEqual(shop.users(name="old"), ["ways"])
        self.assertIs(shop.is_promise(thing=BY), True)
        self.assertIs(shop.holds(promise=BY), True)
        self.assertEqual(shop.shown(promise=BY), (True, (11, 1)))
        shop.watch(promise=BY)
        self.assertEqual(shop.broken_by(thing=M, name="two2"), [])
        self.assertEqual(shop.moved_by(many=9, net=M, name="old"), {"two": (2, 1)})
        shop.unwatch(promise=BY)
        self.assertEqual(shop.trial(work=lambda same: 5), 5)
        shop.take(name="ways")
        self.assertEqual(ways(shop.thing("old")), [[0, 2], [1, 3]])


if __name__ == "__main__":
    unittest.main()
