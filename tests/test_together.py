"""5.2, 9.4 and 12.2 together: one road, played out, by labels, as a bundle, by a plan, with a schedule: all tell the same."""

import unittest

from quickbythen.bundlethrough import bundle_out, shares_of, time_through
from quickbythen.chains import chain_net, chain_through
from quickbythen.comers import come_by
from quickbythen.curves import area, plain, worth_at
from quickbythen.days import day_labels, left_over
from quickbythen.gains import first_gain
from quickbythen.madecurves import added, behind, comers_of, curve_of
from quickbythen.nets import Net
from quickbythen.oneroad import busy, came_out, line_on, went_in, when_out
from quickbythen.orders import at_last, left_lines, played_out, still_from
from quickbythen.phases import label_at, label_curve, line_at, lost, rests, waited
from quickbythen.plans import line_then, lines, played, tally
from quickbythen.repeating import day_through
from quickbythen.resting import growing, levels, resting
from quickbythen.rows import row_lines, row_out
from quickbythen.schedules import beats_of, come_in, heap_of, moment_when, written_out
from quickbythen.shown import plan_until
from quickbythen.stories import story
from quickbythen.through import label_through
from tests.helpers import Chance, frac, moments_in, pair, worth
from tests.test_bundlethrough import ALONE
from tests.test_schedules import any_schedule

MANY = 200


class TogetherTest(unittest.TestCase):
    def check_road(self, road, steps, schedule=None):
        length, room = road
        net = Net(2, [(0, 1, length, room)], 0, 1)
        when = when_out(road, steps)
        self.check_when(road, net, steps, when)
        self.check_heaps(road, net, steps, when)
        self.check_lines(road, net, steps, when)
        self.check_for_ever(road, net, steps)
        if schedule is not None:
            self.check_schedule(road, net, steps, schedule)

    def check_when(self, road, net, steps, when):
        """When who comes at a moment is out."""
        self.assertIsNotNone(rests(net, steps, MANY))
        self.assertEqual(label_curve(net, steps, 1, MANY), when)
        self.assertEqual(added([time_through([[road]], steps), ALONE]), when)
        self.assertEqual(added([chain_through([[[road]]], steps), ALONE]), when)
        self.assertEqual(chain_net([[[road]]]), net)
        plan = [([0], steps)]
        for moment in moments_in(when)[:9]:
            there = pair(worth(when, moment))
            self.assertEqual(label_at(net, steps, 1, pair(moment), MANY), there)
            self.assertEqual(story(net, plan, [0], pair(moment), there), [pair(moment), there])
        until = worth_at(when, (9, 1))
        label = label_through(net, plan, 1, until)
        self.assertEqual([worth(label, moment) for moment in (0, 1, 5, 9)], [worth(when, moment) for moment in (0, 1, 5, 9)])
        self.assertIsNone(first_gain(net, plan, until))
        is_somebody = any([rate != (0, 1) for _, rate in steps])
        self.assertEqual(plan_until(net, steps, MANY), ([([0], steps)] if is_somebody else [], None))

    def check_heaps(self, road, net, steps, when):
        """How many came, and are out, by each moment."""
        out = came_out(road, steps)
        told = played_out(net, [([0], steps)])
        self.assertEqual(told, [[curve_of(steps), out]])
        self.assertEqual(bundle_out([[road]], steps), out)
        self.assertEqual(row_out([road], steps), out)
        self.assertEqual(shares_of([[road]], steps), [steps])
        self.assertEqual(behind(out, when), curve_of(steps))
        self.assertEqual(comers_of(curve_of(steps)), steps)
        inside = went_in(road, steps)
        for moment in moments_in(out)[:9]:
            come, waiting, going, there = tally(net, [([0], steps)], pair(moment))
            self.assertEqual((come, there), (come_by(steps, pair(moment)), worth_at(out, pair(moment))))
            self.assertEqual(waiting, worth_at(line_on(road, steps), pair(moment)))
            self.assertEqual(frac(going), worth(inside, moment) - worth(out, moment))

    def check_lines(self, road, net, steps, when):
        """Lines, and what is waited in them."""
        line = line_on(road, steps)
        plan = [([0], steps)]
        self.assertEqual(row_lines([road], steps), [line])
        for moment in moments_in(line)[:9]:
            told = worth_at(line, pair(moment))
            self.assertEqual(line_at(net, steps, 0, pair(moment), MANY), told)
            self.assertEqual(line_then(net, plan, 0, pair(moment)), told)
            self.assertEqual(frac(told), road[1] * (worth(when, moment) - moment - road[0]))
        self.assertEqual(worth_at(lines(net, plan, (7, 1))[0], (7, 1)), worth_at(line, (7, 1)))
        self.assertEqual(played(net, plan, (7, 1))[0][1], plain(([*self.cut(came_out(road, steps), 7)], (0, 1))))
        for begin, end in busy(road, steps):
            if end is not None:
                much = area(line, begin, end)
                self.assertEqual(waited(net, steps, begin, end, MANY), much)
                self.assertEqual(lost(net, steps, begin, end, MANY), much)

    def cut(self, one, until):
        """The corners of a curve up to a moment."""
        return [corner for corner in one[0] if frac(corner[0]) < until] + [((until, 1), worth_at(one, (until, 1)))]

    def check_for_ever(self, road, net, steps):
        """What grows for ever, across section 10."""
        line, rate = line_on(road, steps), steps[-1][1]
        grows = max(frac(rate) - road[1], 0)
        self.assertEqual(line[1], pair(grows))
        self.assertEqual(growing(net, rate), {0: pair(grows)} if grows else {})
        slope = max(frac(rate) / road[1], 1)
        self.assertEqual(resting(net, rate)[0], {0: (1, 1), 1: pair(slope)})
        self.assertEqual(levels(net, rate)[-1][0], pair(slope))
        self.assertEqual(label_curve(net, steps, 1, MANY)[1], pair(slope))
        plan = [([0], steps)]
        self.assertEqual(at_last(net, plan), [pair(min(frac(rate), road[1]))])
        still = still_from(net, plan)
        left = left_lines(net, plan)
        self.assertEqual(left.get(0, ((0, 1), (0, 1))), (worth_at(line, still), line[1]))

    def check_schedule(self, road, net, steps, schedule):
        """A schedule brings the same, as it stands and day by day."""
        beats = beats_of(schedule)
        for moment in moments_in(curve_of(steps))[:9]:
            self.assertEqual(come_in(schedule, pair(moment)), come_by(steps, pair(moment)))
        self.assertEqual(heap_of(schedule), come_by(steps, beats))
        self.assertLessEqual(frac(moment_when(schedule, heap_of(schedule))), frac(beats))
        through = worth_at(time_through([[road]], steps), beats)
        self.assertEqual(day_through([[road]], schedule, (road[0], 1)), through)
        self.assertEqual(day_labels(net, schedule, 1, MANY), {0: (0, 1), 1: through})
        line = worth_at(line_on(road, steps), beats)
        self.assertEqual(left_over(net, schedule, MANY), {0: line} if line[0] else {})

    def test_roads(self):
        chance = Chance(401)
        for _ in range(50):
            self.check_road(chance.lane(), comers_of(curve_of(chance.comers(4, 12))))

    def test_schedules(self):
        chance = Chance(402)
        for _ in range(30):
            schedule = any_schedule(chance)
            self.check_road(chance.lane(), written_out(schedule), schedule)


if __name__ == "__main__":
    unittest.main()
