"""Where one is who goes a way through the lines of a plan."""

from quickbythen.bends import worth_of
from quickbythen.checks import told_moment
from quickbythen.exact import is_less, over, plus
from quickbythen.nets import is_way
from quickbythen.plans import told_plan
from quickbythen.playing import Play
from quickbythen.refusals import BadWay


def story(net, plan, way, moment, until):
    """The moments at which one is at the start and at the end of each road, as far as they are not behind until."""
    told = told_plan(net, plan)
    if not is_way(net, way):
        raise BadWay(way)
    now = told_moment(moment)
    last = told_moment(until)
    play = Play(net, told, last)
    found = []
    for number in way:
        if is_less(last, now):
            return found
        found.append(now)
        _, _, length, room = net.roads()[number]
        line = worth_of(play.line_curve(number), now)
        now = plus(plus(now, over(line, (room, 1))), (length, 1))
    if not is_less(last, now):
        found.append(now)
    return found
