"""Roads in an order in which all ways go them, or in a ring in which some do."""


def followers_in(ways):
    """The dict from the roads of ways, ascending, to the lists of those that follow at once."""
    used = [number for roads in ways for number in roads]
    found = {road: [] for road in sorted(set(used))}
    for way in ways:
        for index in range(1, len(way)):
            found[way[index - 1]].append(way[index])
    return found


def split_roads(ways):
    """The roads that can be put in order, in order, and the others, of each of which another one is ahead."""
    followers = followers_in(ways)
    ordered = []
    left = list(followers)
    is_going = True
    while is_going:
        barred = [road for one in left for road in followers[one]]
        ready = [road for road in left if road not in barred]
        ordered = ordered + ready
        left = [road for road in left if road in barred]
        is_going = len(ready) > 0
    return (ordered, left)


def order_in(ways):
    """All roads of ways in an order in which each way goes them, None if there is none."""
    ordered, left = split_roads(ways)
    if left:
        return None
    return ordered


def ring_in(ways):
    """Roads each of which is followed by the next one in some way, the last by the first, None if there are none."""
    left = split_roads(ways)[1]
    if not left:
        return None
    followers = followers_in(ways)
    trail = [left[0]]
    while True:
        # All that are left are behind another one that is left: so going back never ends.
        ahead = [road for road in left if trail[-1] in followers[road]]
        if ahead[0] in trail:
            return trail[trail.index(ahead[0]):][::-1]
        trail.append(ahead[0])
