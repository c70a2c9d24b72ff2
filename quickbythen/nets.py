"""Nets of roads, and the ways through them."""

from quickbythen.errors import BadEnd, BadPlaces, BadRoads, BadStart
from quickbythen.kinds import is_count, is_index, is_integer, is_list


def is_road(places, thing):
    """Whether a thing is a road between so many places."""
    if not is_list(thing) or len(thing) != 4:
        return False
    if not is_index(thing[0], places) or not is_index(thing[1], places):
        return False
    return thing[0] != thing[1] and is_count(thing[2]) and is_count(thing[3])


def told_roads(places, roads):
    """The ascending list of unlike roads; BadRoads for what is no such list."""
    if not is_list(roads):
        raise BadRoads(0)
    seen = set()
    for index, road in enumerate(roads):
        if not is_road(places, road) or tuple(road) in seen:
            raise BadRoads(index)
        seen.add(tuple(road))
    return sorted(seen)


class Net:
    """Places, the roads between them, a start and an end."""

    def __init__(self, places, roads, start, end):
        if not is_integer(places) or places < 2:
            raise BadPlaces(places)
        kept = told_roads(places, roads)
        if not is_index(start, places):
            raise BadStart(start)
        if not is_index(end, places) or end == start:
            raise BadEnd(end)
        self._places = places
        self._roads = kept
        self._start = start
        self._end = end

    def places(self):
        """How many places there are."""
        return self._places

    def roads(self):
        """The ascending list of the roads; the index of one is its number."""
        return list(self._roads)

    def start(self):
        """The place where drops come to the net."""
        return self._start

    def end(self):
        """The place to which they want."""
        return self._end

    def __eq__(self, other):
        return (isinstance(other, Net) and self._places == other._places and self._roads == other._roads
                and self._start == other._start and self._end == other._end)


def is_way(net, thing):
    """Whether a thing is a way from the start to the end."""
    if not is_list(thing):
        return False
    roads = net.roads()
    been = [net.start()]
    for number in thing:
        if not is_index(number, len(roads)):
            return False
        if roads[number][0] != been[-1] or roads[number][1] in been:
            return False
        been.append(roads[number][1])
    return been[-1] == net.end()


def ways(net):
    """The ascending list of all ways."""
    roads = net.roads()
    found = []
    begun = [([], [net.start()])]
    while begun:
        way, been = begun.pop()
        if been[-1] == net.end():
            found.append(way)
            continue
        for number, road in enumerate(roads):
            if road[0] == been[-1] and road[1] not in been:
                begun.append((way + [number], been + [road[1]]))
    return sorted(found)


def shortest(net):
    """The least lengths, as moments, to all places that can be come to."""
    least = {net.start(): 0}
    is_changing = True
    while is_changing:
        is_changing = False
        for one, other, length, _ in net.roads():
            if one in least and (other not in least or least[one] + length < least[other]):
                least[other] = least[one] + length
                is_changing = True
    return {place: (least[place], 1) for place in sorted(least)}
