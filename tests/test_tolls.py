"""14.4: a toll by which nobody waits, and nobody has more trouble; and what 14.6 shows of it."""

import unittest
from fractions import Fraction

from quickbythen.comers import rate_at
from quickbythen.curves import area
from quickbythen.oneroad import line_on
from quickbythen.refusals import TooSoon
from quickbythen.rows import together
from quickbythen.settingout import settled, stretches, troubles
from quickbythen.tolls import paid, toll, tolled
from tests.helpers import Chance, check_doors, check_told_comers, check_told_curve, comers, frac, pair, swapped, unlowered, worth
from tests.test_settingout import DOORS, ONE_WISH, TWO, Looked, any_case

ZERO_LINE = ([((0, 1), (0, 1))], (0, 1))


class TollTest(unittest.TestCase):
    def check_toll(self, case):
        told = toll(*case)
        check_told_curve(self, told)
        same = (case[0], case[1], swapped(unlowered(case[2])), list(unlowered(case[3])), unlowered(case[4]))
        self.assertEqual(toll(*same), told)
        # It is the wait: of who comes by settled to the road, at the moment at which it is at the end.
        looked = Looked(case, settled(*case))
        for moment in looked.moments():
            self.assertEqual(worth(told, looked.out(moment)), looked.wait(moment))
        self.assertEqual(told[1], (0, 1))
        return told, same

    def check_tolled(self, case, same, told):
        streams = tolled(*case)
        self.assertEqual(tolled(*same), streams)
        spans = [(frac(begin), frac(end)) for begin, end, _ in stretches(*case)]
        for steps in streams:
            check_told_comers(self, steps)
            self.assertLessEqual({frac(rate) for _, rate in steps}, {0, case[0]})
        whole = together(streams)
        self.assertEqual([(frac(one), frac(other)) for (one, rate), (other, _) in zip(whole, whole[1:]) if rate != (0, 1)],
                         [(begin - case[1], end - case[1]) for begin, end in spans])
        self.assertEqual(line_on((case[1], case[0]), whole), ZERO_LINE)
        looked = Looked(case, streams)
        wanted = [frac(one) for one in troubles(*case)]
        for moment in looked.moments() + [begin - case[1] for begin, _ in spans]:
            for index, steps in enumerate(streams):
                both = looked.trouble(index, moment) + worth(told, looked.out(moment))
                self.assertGreaterEqual(both, wanted[index])
                if rate_at(steps, pair(moment))[0] > 0:
                    self.assertEqual(both, wanted[index])

    def check_paid(self, case, same, told):
        much = paid(*case)
        self.assertEqual(paid(*same), much)
        # Room drops a beat pay it while they come, nobody pays outside; and it is what all wait by settled.
        self.assertEqual(frac(much), case[0] * frac(area(told, (0, 1), (10 ** 4, 1))))
        waits = line_on((case[1], case[0]), together(settled(*case)))
        self.assertEqual(area(waits, (0, 1), (10 ** 4, 1)), much)

    def test_samples(self):
        chance = Chance(241)
        for _ in range(30):
            case = any_case(chance)
            told, same = self.check_toll(case)
            self.check_tolled(case, same, told)
            self.check_paid(case, same, told)

    def test_set_out_from_the_first_moment_on(self):
        case = (1, 2, [((6, 1), (6, 1))], (1, 2), (1, 1))
        told, same = self.check_toll(case)
        self.check_tolled(case, same, told)
        self.assertEqual(tolled(*case), [comers((0, 1), (6, 0))])

    def test_too_soon(self):
        case = (1, 2, [((5, 1), (6, 1)), ((30, 1), (1, 1))], (1, 2), (1, 1))
        for call in (toll, tolled):
            with self.assertRaises(TooSoon) as caught:
                call(*case)
            self.assertEqual(caught.exception.moment, (-1, 1))
        later = [(pair(frac(moment) + 20), heap) for moment, heap in case[2]]
        self.assertEqual(paid(*case), paid(1, 2, later, (1, 2), (1, 1)))

    def test_example(self):
        self.assertEqual(toll(*ONE_WISH),
                         ([((0, 1), (0, 1)), ((16, 1), (0, 1)), ((20, 1), (2, 1)), ((22, 1), (0, 1))], (0, 1)))
        self.assertEqual(paid(*ONE_WISH), (6, 1))
        self.assertEqual([worth(toll(*TWO), moment) for moment in (20, 21, 24)], [Fraction(5, 2), Fraction(3, 2), 3])
        self.assertEqual(tolled(*TWO), [comers((0, 0), (13, 1), (19, 0)), comers((0, 0), (19, 1), (25, 0))])

    def test_errors_names_and_new(self):
        named = dict(zip(("late", "early", "wishes", "length", "room"), TWO[::-1]))
        for call in (toll, tolled, paid):
            check_doors(self, call, TWO, DOORS)
            self.assertEqual(call(**named), call(*TWO))
        toll(*TWO)[0].clear()
        tolled(*TWO)[0].clear()
        self.assertEqual((len(toll(*TWO)[0]), len(tolled(*TWO)[0])), (6, 3))


if __name__ == "__main__":
    unittest.main()
