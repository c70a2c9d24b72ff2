"""2.2: the errors of the whole document."""

import inspect
import re
import unittest

from quickbythen import errors, refusals

SHARED = """BadFraction(thing), BadMoment(thing), BadRate(thing), BadHeap(thing), BadPlaces(places), BadRoads(index),
BadStart(place), BadEnd(place), BadComers(index), NoWay(), BadStand(thing), BadMany(many), BadPlace(place),
BadRoad(road)"""
SINGLE = """BadCurve(thing), BadCurves(index), IsBelow(moment), NotGrowing(moment), NotRising(moment), BadRow(row),
BadStreams(index), BadStories(index), NotOut(moment), NotThrough(moment), BadCut(thing), BadFlow(thing),
TooMuch(rate), BadRoom(room), BadLength(length), BadWishes(index), BadEarly(early), BadLate(late), BadSetting(index),
TooSoon(moment), BadBundle(index), BadNumber(number), BadMost(most), BadChain(index), BadShares(thing), BadBox(box),
BadAnswer(thing), Unfit(rates), BadBundles(index), BadPlan(index), BadWay(thing), BadGroup(index), NoOrder(ring),
BadSending(index), BadChoice(index), BadBeat(beat), BadPeriod(period), BadSchedule(thing), BadTaken(taken),
BadKind(kind), BadThing(thing), BadText(line), BadName(name), NoName(name), NoNet(name), NoStream(name), NoPlan(name),
OtherKind(kind), InUse(user), BadPromise(promise), Watched(promise), NotKept(promise), NotWatched(promise),
Broken(promise)"""


def listed(text):
    return re.findall(r"(\w+)\((\w*)\)", text)


class ErrorsTest(unittest.TestCase):
    def check_file(self, module, text):
        for name, parameter in listed(text):
            with self.subTest(name):
                error = getattr(module, name)
                self.assertEqual(error.__module__, module.__name__)
                self.assertEqual(error.__bases__, (errors.QuickError,))
                if not parameter:
                    self.assertIsInstance(error(), ValueError)
                    continue
                self.assertEqual(list(inspect.signature(error).parameters), [parameter])
                thing = [1, 2]
                self.assertIs(getattr(error(thing), parameter), thing)
                self.assertIs(getattr(error(**{parameter: thing}), parameter), thing)

    def test_shared(self):
        self.check_file(errors, SHARED)

    def test_single(self):
        self.check_file(refusals, SINGLE)

    def test_how_many(self):
        self.assertEqual(len(listed(SHARED)), 14)
        self.assertEqual(len(listed(SINGLE)), 54)

    def test_base(self):
        self.assertEqual(errors.QuickError.__bases__, (ValueError,))
        self.assertEqual(errors.QuickError.__module__, "quickbythen.errors")

    def test_all_can_be_caught_by_the_base(self):
        with self.assertRaises(errors.QuickError):
            raise errors.NoWay()
        with self.assertRaises(errors.QuickError):
            raise refusals.Unfit([1, 2])


if __name__ == "__main__":
    unittest.main()
