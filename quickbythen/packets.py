"""Packets on a net: what comes of their choices, quick choices, and what is free behind them."""

from quickbythen.course import check_way
from quickbythen.kinds import is_number
from quickbythen.nets import ways
from quickbythen.packeting import Beats, Sending, sent, told_choice, told_sending
from quickbythen.refusals import BadBeat


def packets_played(net, sending, choice):
    """By packets, the beats at which they go into each road of their way, and that at which they are at the end."""
    beats = told_sending(sending)
    return Beats(net, beats, told_choice(net, len(beats), choice)).play()


def quick_fault(net, sending, choice):
    """The first packet that is late somewhere, the first place where it is, and its label of that; None if none is."""
    beats = told_sending(sending)
    told = told_choice(net, len(beats), choice)
    roads = net.roads()
    # Who goes quick is held up by nobody behind it: so all up to the first who is late are looked at one by one.
    behind = Sending(net)
    for index, (beat, way) in enumerate(zip(beats, told)):
        labels = behind.labels(beat)
        now = beat
        for number in way:
            now = behind.out_at(number, now)
            place = roads[number][1]
            if now > labels[place]:
                return (index, place, labels[place])
        behind.go(way, beat)
    return None


def quick_choice(net, sending):
    """The ways of packets that go, one behind another, each the first way by which it is nowhere late."""
    return sent(net, sending)[1]


def first_free(net, sending):
    """By roads, the beat at which one packet more could go in behind all that go quick, and how many could then."""
    free = sent(net, sending)[0].free
    return {number: free[number] for number in sorted(free)}


def packet_labels(net, sending, beat):
    """The labels of one packet more that sets out at a beat behind all others, which go quick."""
    beats = told_sending(sending)
    if not is_number(beat) or (beats and beat < beats[-1]):
        raise BadBeat(beat)
    check_way(net)
    return sent(net, beats)[0].labels(beat)


def packet_gain(net, sending, choice):
    """The first packet that would be earlier at the end by another way, the way, and the beat then; None if none."""
    beats = told_sending(sending)
    told = told_choice(net, len(beats), choice)
    ends = [row[-1] for row in Beats(net, beats, told).play()]
    others = ways(net)
    for index, end in enumerate(ends):
        for way in others:
            beat = Beats(net, beats, told[:index] + [way] + told[index + 1:]).play()[index][-1]
            if beat < end:
                return (index, way, beat)
    return None
