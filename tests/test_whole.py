"""2.1 and 2.3 over the whole package: by names in any order, lists and tuples alike, what is told new, what is passed kept."""

import copy
import importlib
import unittest

from quickbythen.nets import Net
from quickbythen.phases import phases
from quickbythen.plans import played
from quickbythen.settingout import settled
from quickbythen.tables import table
from quickbythen.through import labels_through
from quickbythen.workshops import Workshop
from tests.helpers import N, ODD, comers, curve, swapped
from tests.test_bundles import B
from tests.test_interface import listed

C = comers((0, 6), (2, 0))
FOUR = comers((0, 4))
DAY = ("behind", [("rate", (4, 1), (3, 1)), ("rate", (0, 1), (2, 1))])
BENT = curve([(0, 0), (1, 3), (3, 3)], 2)
FLAT = curve([(0, 1), (2, 4)], 0)
PLAN = [([0, 2, 4], FOUR), ([0, 3], comers((0, 1), (3, 0)))]
ROWS = [[(1, 2)], [(1, 3), (2, 1)]]
GOES = {0: (2, 1), 1: (1, 1), 2: (1, 1), 3: (1, 1), 4: (2, 1)}
STAND = ([0, 1, 2, 4], [0])
WISHES = [((20, 1), (6, 1)), ((24, 1), (6, 1))]
SETTING = (1, 2, WISHES, (1, 2), (1, 1))

# What is passed for a parameter, if nothing else is told for the function.
USUAL = {
    "net": N, "comers": C, "others": FOUR, "curve": BENT, "moment": (1, 1), "begin": (1, 1), "end": (5, 1), "many": 9,
    "place": 3, "road": 0, "rate": (3, 1), "until": (9, 1), "plan": PLAN, "way": [0, 3], "bundle": B, "chain": [B, [[(1, 2)]]],
    "schedule": DAY, "day": DAY, "number": 2, "sending": [0, 0, 1], "period": 3, "choice": [[0, 2, 4], [0, 3], [1, 4]],
    "room": 1, "length": 2, "wishes": WISHES, "early": (1, 2), "late": (1, 1), "stand": STAND, "most": (2, 1), "worth": (2, 1),
    "heap": (3, 1), "factor": (-2, 1), "row": [(2, 3), (1, 2)], "thing": None, "index": 0, "wanted": curve([(0, 0), (6, 0)], 1),
    "stories": [((1, 1), (5, 1)), ((2, 1), (11, 2))], "streams": [C, FOUR], "cut": [0, 1], "goes": GOES, "shares": [C, FOUR],
    "taken": (3, 2), "beat": 4, "bundles": [B, [[(1, 2)]], [[(1, 4)]]], "curves": [BENT, FLAT], "text": "comers\nfrom 0 1\n",
    "kind": "comers", "out": curve([(0, 0), (2, 0), (4, 6)], 0), "box": lambda rate: 1 if rate < 3 else None}

PAIRS = {"madecurves": (BENT, FLAT), "heldcurves": (BENT, FLAT), "curves": (BENT, FLAT), "rows": ([(2, 3), (1, 2)], [(1, 3), (2, 2)]),
         "laterbundles": (ROWS, B), "compared": (N, Net(4, N.roads()[:4], 0, 3)), "apart": (DAY, ("again", 2, DAY)),
         "fewer": (ROWS, B)}
SPECIAL = {
    "turned": {"curve": curve([(0, 0), (2, 1)], 3)}, "comers_of": {"curve": BENT}, "behind": {"one": BENT, "other": FLAT},
    "kept_between": {"low": BENT, "high": FLAT, "most": (5, 1)}, "too_steep": {"low": BENT, "high": FLAT, "most": (5, 1)},
    "crowd": {"room": (3, 1), "most": (3, 1)}, "went_in": {"road": (2, 3)}, "line_on": {"road": (2, 3)}, "came_out": {"road": (2, 3)},
    "when_out": {"road": (2, 3)}, "busy": {"road": (2, 3)}, "latest_comers": {"road": (2, 3)}, "too_much": {"road": (2, 3)},
    "letters_out": {"road": (2, 3)}, "comers_behind": {"road": (2, 3)}, "could_have_come": {"road": (2, 3)},
    "comers_through": {"road": (2, 3), "curve": curve([(0, 2), (1, 5)], 1)}, "fitting_comers": {"road": (2, 3)},
    "clash": {"road": (2, 3)}, "is_played": {"thing": played(N, PLAN, (9, 1))},
    "is_labels": {"thing": labels_through(N, PLAN, (1, 1), (9, 1))}, "is_stand": {"thing": STAND},
    "is_table": {"thing": table(N, STAND, (3, 1))}, "is_phases": {"thing": phases(N, C, 2)}, "is_plan": {"thing": PLAN},
    "is_way": {"thing": [0, 3]}, "is_curve": {"thing": BENT}, "is_cut": {"thing": [0, 1]}, "is_flow": {"thing": GOES},
    "is_resting": {"thing": ({0: (1, 1)}, {})}, "is_cheapest": {"thing": (GOES, {})}, "is_schedule": {"thing": DAY},
    "learned_lanes": {"most": 9}, "write": {"thing": C}, "fits_until": {"curve": FLAT}, "seen_bounds": {"curve": curve([(0, 1)], 2)},
    "gains": {"thing": settled(*SETTING)}, "round_stand": {"sending": [0, 0, 1]}, "later_until": {}, "without_road": {"road": 2}}


def arguments(name, function, parameters):
    """What is passed for each parameter of a function."""
    found = {}
    for parameter in parameters.split(", "):
        if parameter in SPECIAL.get(function, {}):
            found[parameter] = SPECIAL[function][parameter]
        elif parameter in ("one", "other"):
            found[parameter] = PAIRS[name][parameter == "other"]
        else:
            found[parameter] = USUAL[parameter]
    return found


def spoil(thing):
    """Clear all lists and dicts in a thing."""
    if isinstance(thing, (list, tuple)):
        for part in thing:
            spoil(part)
    if isinstance(thing, dict):
        for key in list(thing):
            spoil(thing[key])
    if isinstance(thing, (list, dict)):
        thing.clear()


def seen(thing):
    """What can be seen of a told thing."""
    if isinstance(thing, Net):
        return ("net", thing.places(), thing.roads(), thing.start(), thing.end())
    if isinstance(thing, (list, tuple)):
        return (type(thing).__name__, [seen(part) for part in thing])
    if isinstance(thing, dict):
        return [(key, seen(thing[key])) for key in thing]
    return (type(thing).__name__, thing)


class WholeTest(unittest.TestCase):
    def test_all_functions(self):
        for name, function, parameters in listed():
            with self.subTest(function):
                call = getattr(importlib.import_module("quickbythen." + name), function)
                passed = arguments(name, function, parameters)
                before = copy.deepcopy({key: part for key, part in passed.items() if not isinstance(part, Net)})
                told = seen(call(*[passed[key] for key in passed]))
                self.check_by_names(call, passed, told)
                self.check_kept(passed, before)
                spoil(call(**passed))
                self.check_kept(passed, before)
                self.assertEqual(seen(call(**passed)), told)

    def check_by_names(self, call, passed, told):
        keys = list(passed)
        for order in (keys, keys[::-1], keys[1:] + keys[:1]):
            self.assertEqual(seen(call(**{key: passed[key] for key in order})), told)
        if len(keys) > 1:
            # By place and by names, mixed; and lists and tuples mean the same.
            self.assertEqual(seen(call(passed[keys[0]], **{key: passed[key] for key in keys[:0:-1]})), told)
        self.assertEqual(seen(call(*[swapped(passed[key]) for key in keys])), told)

    def check_kept(self, passed, before):
        for key in before:
            if not callable(before[key]):
                self.assertEqual(seen(passed[key]), seen(before[key]))

    def test_not_all_are_none(self):
        """What is asked is such that most functions tell something."""
        none = []
        for name, function, parameters in listed():
            passed = arguments(name, function, parameters)
            if getattr(importlib.import_module("quickbythen." + name), function)(**passed) in (None, False):
                none.append(function)
        self.assertLess(len(none), 30, none)

    def test_objects(self):
        net, shop = Net(places=4, end=3, roads=N.roads(), start=0), Workshop()
        self.assertTrue(net == N and not net != N)
        roads = net.roads()
        roads.clear()
        self.assertEqual(net.roads(), N.roads())
        for thing in ODD + [shop, "net", (4, N.roads(), 0, 3)]:
            if thing is not N:
                self.assertFalse(net == thing)
                self.assertTrue(net != thing)
        for thing in ODD + [net]:
            self.assertFalse(shop == thing)
            self.assertFalse(thing == shop)


if __name__ == "__main__":
    unittest.main()
