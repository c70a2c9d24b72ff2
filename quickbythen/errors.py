"""The base of all errors, and the errors that many sections share."""


class QuickError(ValueError):
    """The base of all errors of this package."""


class BadFraction(QuickError):
    """What was passed is no fraction."""

    def __init__(self, thing):
        self.thing = thing


class BadMoment(QuickError):
    """What was passed is no moment."""

    def __init__(self, thing):
        self.thing = thing


class BadRate(QuickError):
    """What was passed is no rate."""

    def __init__(self, thing):
        self.thing = thing


class BadHeap(QuickError):
    """What was passed is no heap."""

    def __init__(self, thing):
        self.thing = thing


class BadPlaces(QuickError):
    """What was passed is no number of places."""

    def __init__(self, places):
        self.places = places


class BadRoads(QuickError):
    """The thing with this index keeps a list from being the roads of a net."""

    def __init__(self, index):
        self.index = index


class BadStart(QuickError):
    """What was passed is no place to start from."""

    def __init__(self, place):
        self.place = place


class BadEnd(QuickError):
    """What was passed is no place to end at."""

    def __init__(self, place):
        self.place = place


class BadComers(QuickError):
    """The thing with this index keeps a list from being comers."""

    def __init__(self, index):
        self.index = index


class NoWay(QuickError):
    """The net has no way from its start to its end."""


class BadStand(QuickError):
    """What was passed is no stand of the net."""

    def __init__(self, thing):
        self.thing = thing


class BadMany(QuickError):
    """What was passed is no integer from 1 on."""

    def __init__(self, many):
        self.many = many


class BadPlace(QuickError):
    """What was passed is no place that is asked for."""

    def __init__(self, place):
        self.place = place


class BadRoad(QuickError):
    """What was passed is no road that is asked for."""

    def __init__(self, road):
        self.road = road
