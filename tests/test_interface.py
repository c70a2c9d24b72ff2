"""The interface: each name in its file, with the parameters that the document shows."""

import importlib
import inspect
import re
import unittest

LISTED = """
nets.py: is_way(net, thing); ways(net); shortest(net).
comers.py: rate_at(comers, moment); come_by(comers, moment).
curves.py: is_curve(thing); plain(curve); worth_at(curve, moment); slope_at(curve, moment); first_at(curve, worth);
first_above(one, other); first_apart(one, other); area(curve, begin, end).
madecurves.py: added(curves); least_of(curves); greatest_of(curves); scaled(curve, factor); difference(one, other);
behind(one, other); turned(curve); curve_of(comers); comers_of(curve).
heldcurves.py: risen(curve); held_back(curve, most); pushed_ahead(curve, most); kept_between(low, high, most);
too_steep(low, high, most).
oneroad.py: went_in(road, comers); line_on(road, comers); came_out(road, comers); when_out(road, comers);
busy(road, comers).
roomenough.py: crowd(comers, room, most); room_for_line(comers, most); room_for_wait(comers, most);
latest_comers(road, wanted); too_much(road, wanted).
rows.py: row_out(row, comers); row_lines(row, comers); row_form(row); seen_alike(one, other);
parting_rate(one, other); together(streams); letters_out(road, streams).
lookedback.py: comers_behind(road, out); could_have_come(road, out, moment); comers_through(road, curve);
fitting_comers(road, stories); clash(road, stories).
plans.py: is_plan(net, thing); played(net, plan, until); lines(net, plan, until); line_then(net, plan, road, moment);
is_played(net, plan, until, thing); tally(net, plan, moment).
stories.py: story(net, plan, way, moment, until).
orders.py: road_order(net, plan); road_ring(net, plan); played_out(net, plan); still_from(net, plan);
at_last(net, plan); left_lines(net, plan).
through.py: labels_through(net, plan, moment, until); is_labels(net, plan, moment, until, thing);
quick_way(net, plan, moment, until); quicker(net, plan, way, moment, until); label_through(net, plan, place, until).
gains.py: first_gain(net, plan, until); gain_of(net, plan, index, moment, until).
tables.py: is_stand(net, thing); table(net, stand, rate); is_table(net, stand, rate, thing).
phases.py: phases(net, comers, many); rests(net, comers, many); label_at(net, comers, place, moment, many);
label_curve(net, comers, place, many); line_at(net, comers, road, moment, many);
waited(net, comers, begin, end, many); lost(net, comers, begin, end, many).
shown.py: is_phases(net, comers, thing); plan_until(net, comers, many).
cuts.py: is_cut(net, thing); room_of(net, cut); least_cut(net); is_flow(net, rate, thing); flow_within(net, rate).
resting.py: resting(net, rate); is_resting(net, rate, thing); levels(net, rate); growing(net, rate).
cheapest.py: cheapest(net, rate); is_cheapest(net, rate, thing); least_cost(net, rate); marks_for(net, rate, goes);
cheaper(net, rate, goes).
compared.py: known_until(net, comers, many); compared(one, comers, other, others, many);
first_later(one, comers, other, others, many); saved(one, other, comers, moment, many);
for_ever(one, comers, other, others, many); same_until(comers, others).
changes.py: idle(net, comers, many); without_road(net, road); harming(net, comers, many); is_chain(net).
bundles.py: as_road(row); lanes_of(bundle); room_by(bundle, number); cut_lanes(bundle, most); net_of(bundle).
bundlethrough.py: time_through(bundle, comers); shares_of(bundle, comers); bundle_out(bundle, comers).
laterbundles.py: never_later(one, other, most); alike_bundles(one, other, most); later_steady(one, other, most);
later_until(one, other, comers); as_quick_as_both(one, other); as_slow_as_both(one, other).
chains.py: chain_through(chain, comers); chain_net(chain).
bestshares.py: brought(bundle, shares); most_out(bundle, comers); best_shares(bundle, comers).
rests.py: rest_of(bundle, rate); learned_lanes(box, most); fewest_rates(bundles).
seen.py: fits_until(comers, curve); seen_bounds(comers, curve); tells_all(bundle, comers); twin_for(bundle, comers).
settingout.py: settled(room, length, wishes, early, late); gains(room, length, wishes, early, late, thing);
stretches(room, length, wishes, early, late); troubles(room, length, wishes, early, late).
tolls.py: toll(room, length, wishes, early, late); tolled(room, length, wishes, early, late);
paid(room, length, wishes, early, late).
packets.py: packets_played(net, sending, choice); quick_fault(net, sending, choice); quick_choice(net, sending);
first_free(net, sending); packet_labels(net, sending, beat); packet_gain(net, sending, choice).
rounds.py: round_stand(net, sending, period, number); comes_again(net, sending, period, many);
far_packet(net, sending, period, number, many).
schedules.py: is_schedule(thing); beats_of(schedule); heap_of(schedule); rate_in(schedule, moment);
come_in(schedule, moment); moment_when(schedule, heap); written_out(schedule).
apart.py: schedules_apart(one, other).
days.py: day_labels(net, day, number, many); day_again(net, day, number, many);
label_by_day(net, day, place, moment, number, many); left_over(net, day, many); pause_for(net, day, many).
repeating.py: day_through(bundle, day, taken); repeating(bundle, day).
written.py: write(kind, thing).
readtexts.py: read(text).
"""
METHODS = """put(name, thing), settle(name, net, stream, many), take(name), thing(name), names(), users(name),
is_promise(thing), holds(promise), shown(promise), watch(promise), unwatch(promise), watched(), broken_by(name, thing),
moved_by(name, net, many), undo(), redo(), done(), twin(), trial(work)"""


def listed():
    """All functions: their files, names and parameters."""
    return [(name, function, parameters) for name, text in re.findall(r"(\w+)\.py: ([^.]*)\.", LISTED)
            for function, parameters in re.findall(r"(\w+)\(([^)]*)\)", text)]


class InterfaceTest(unittest.TestCase):
    def test_functions(self):
        found = 0
        for name, function, parameters in listed():
            module = importlib.import_module("quickbythen." + name)
            with self.subTest(function):
                made = getattr(module, function)
                self.assertTrue(inspect.isfunction(made))
                self.assertEqual(made.__module__, "quickbythen." + name)
                self.assertEqual(str(inspect.signature(made)), "(" + parameters + ")")
                found += 1
        self.assertEqual(found, 164)

    def test_net(self):
        from quickbythen.nets import Net
        self.assertEqual(Net.__module__, "quickbythen.nets")
        self.assertEqual(str(inspect.signature(Net)), "(places, roads, start, end)")
        for method in ("places", "roads", "start", "end", "__eq__"):
            self.assertIn(method, vars(Net))
            if method != "__eq__":
                self.assertEqual(str(inspect.signature(getattr(Net, method))), "(self)")

    def test_workshop(self):
        from quickbythen.workshops import Workshop
        self.assertEqual(Workshop.__module__, "quickbythen.workshops")
        self.assertEqual(str(inspect.signature(Workshop)), "()")
        self.assertIn("__eq__", vars(Workshop))
        methods = re.findall(r"(\w+)\(([^)]*)\)", METHODS)
        for method, parameters in methods:
            self.assertIn(method, vars(Workshop))
            wanted = "(self, " + parameters + ")" if parameters else "(self)"
            self.assertEqual(str(inspect.signature(vars(Workshop)[method])), wanted)
        self.assertEqual(len(methods), 19)


if __name__ == "__main__":
    unittest.main()
