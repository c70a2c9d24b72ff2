"""The errors that single sections raise."""

from quickbythen.errors import QuickError


class BadCurve(QuickError):
    """What was passed is no curve."""

    def __init__(self, thing):
        self.thing = thing


class BadCurves(QuickError):
    """The thing with this index is no curve."""

    def __init__(self, index):
        self.index = index


class IsBelow(QuickError):
    """A curve is below 0 at this moment, or right behind it."""

    def __init__(self, moment):
        self.moment = moment


class NotGrowing(QuickError):
    """A curve does not grow from this moment on."""

    def __init__(self, moment):
        self.moment = moment


class NotRising(QuickError):
    """A curve falls from this moment on."""

    def __init__(self, moment):
        self.moment = moment


class BadRow(QuickError):
    """What was passed is no row of roads."""

    def __init__(self, row):
        self.row = row


class BadStreams(QuickError):
    """The thing with this index is no comers."""

    def __init__(self, index):
        self.index = index


class BadStories(QuickError):
    """The thing with this index is no story."""

    def __init__(self, index):
        self.index = index


class NotOut(QuickError):
    """From this moment on a curve is none of what is out of the road."""

    def __init__(self, moment):
        self.moment = moment


class NotThrough(QuickError):
    """By this moment a curve is none of when drops are out of the road."""

    def __init__(self, moment):
        self.moment = moment


class BadCut(QuickError):
    """What was passed is no cut of the net."""

    def __init__(self, thing):
        self.thing = thing


class BadFlow(QuickError):
    """What was passed is no such flow of the net."""

    def __init__(self, thing):
        self.thing = thing


class TooMuch(QuickError):
    """No flow within rooms has this rate."""

    def __init__(self, rate):
        self.rate = rate


class BadRoom(QuickError):
    """What was passed is no room."""

    def __init__(self, room):
        self.room = room


class BadLength(QuickError):
    """What was passed is no length."""

    def __init__(self, length):
        self.length = length


class BadWishes(QuickError):
    """The thing with this index keeps a list from being wishes."""

    def __init__(self, index):
        self.index = index


class BadEarly(QuickError):
    """What was passed is no fraction between 0 and 1."""

    def __init__(self, early):
        self.early = early


class BadLate(QuickError):
    """What was passed is no fraction above 0."""

    def __init__(self, late):
        self.late = late


class BadSetting(QuickError):
    """The thing with this index keeps a list from being a setting out."""

    def __init__(self, index):
        self.index = index


class TooSoon(QuickError):
    """The first drop would have to come at this moment, below 0."""

    def __init__(self, moment):
        self.moment = moment


class BadBundle(QuickError):
    """The thing with this index is no row of the bundle."""

    def __init__(self, index):
        self.index = index


class BadNumber(QuickError):
    """What was passed is no number."""

    def __init__(self, number):
        self.number = number


class BadMost(QuickError):
    """What was passed is no such bound."""

    def __init__(self, most):
        self.most = most


class BadChain(QuickError):
    """The thing with this index is no bundle of the chain."""

    def __init__(self, index):
        self.index = index


class BadShares(QuickError):
    """What was passed is no list of comers, as many as lanes."""

    def __init__(self, thing):
        self.thing = thing


class BadBox(QuickError):
    """What was passed is no function."""

    def __init__(self, box):
        self.box = box


class BadAnswer(QuickError):
    """A box answered with this thing."""

    def __init__(self, thing):
        self.thing = thing


class Unfit(QuickError):
    """No bundle answers so to these rates."""

    def __init__(self, rates):
        self.rates = rates


class BadBundles(QuickError):
    """The thing with this index is no bundle."""

    def __init__(self, index):
        self.index = index


class BadPlan(QuickError):
    """The thing with this index keeps a list from being a plan."""

    def __init__(self, index):
        self.index = index


class BadWay(QuickError):
    """What was passed is no way of the net."""

    def __init__(self, thing):
        self.thing = thing


class BadGroup(QuickError):
    """What was passed is no index of a group."""

    def __init__(self, index):
        self.index = index


class NoOrder(QuickError):
    """The ways of a plan have this ring of roads, and no order."""

    def __init__(self, ring):
        self.ring = ring


class BadSending(QuickError):
    """The thing with this index keeps a list from being a sending."""

    def __init__(self, index):
        self.index = index


class BadChoice(QuickError):
    """The thing with this index keeps a list from being a choice."""

    def __init__(self, index):
        self.index = index


class BadBeat(QuickError):
    """What was passed is no beat that is asked for."""

    def __init__(self, beat):
        self.beat = beat


class BadPeriod(QuickError):
    """What was passed is no period of the round."""

    def __init__(self, period):
        self.period = period


class BadSchedule(QuickError):
    """What was passed is no schedule."""

    def __init__(self, thing):
        self.thing = thing


class BadTaken(QuickError):
    """What was passed is no time that a bundle can take."""

    def __init__(self, taken):
        self.taken = taken


class BadKind(QuickError):
    """What was passed is no kind of texts."""

    def __init__(self, kind):
        self.kind = kind


class BadThing(QuickError):
    """What was passed is no thing that is asked for."""

    def __init__(self, thing):
        self.thing = thing


class BadText(QuickError):
    """This line, with those ahead of it, begins no text."""

    def __init__(self, line):
        self.line = line


class BadName(QuickError):
    """What was passed is no name."""

    def __init__(self, name):
        self.name = name


class NoName(QuickError):
    """What was passed means nothing."""

    def __init__(self, name):
        self.name = name


class NoNet(QuickError):
    """What was passed means no net."""

    def __init__(self, name):
        self.name = name


class NoStream(QuickError):
    """What was passed means no comers."""

    def __init__(self, name):
        self.name = name


class NoPlan(QuickError):
    """The plan that this name means would be none of the new net."""

    def __init__(self, name):
        self.name = name


class OtherKind(QuickError):
    """The name means a thing of this other kind."""

    def __init__(self, kind):
        self.kind = kind


class InUse(QuickError):
    """This plan, or promise, is on the net."""

    def __init__(self, user):
        self.user = user


class BadPromise(QuickError):
    """What was passed is no promise now."""

    def __init__(self, promise):
        self.promise = promise


class Watched(QuickError):
    """This promise is watched already."""

    def __init__(self, promise):
        self.promise = promise


class NotKept(QuickError):
    """This promise does not hold."""

    def __init__(self, promise):
        self.promise = promise


class NotWatched(QuickError):
    """What was passed is no watched promise."""

    def __init__(self, promise):
        self.promise = promise


class Broken(QuickError):
    """This watched promise would not hold any more."""

    def __init__(self, promise):
        self.promise = promise
