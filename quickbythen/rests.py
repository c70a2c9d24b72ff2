"""By which length bundles rest, and what bundles are learned from that."""

from itertools import combinations

from quickbythen.checks import told_rate
from quickbythen.errors import QuickError
from quickbythen.exact import is_less
from quickbythen.kinds import is_count, is_list
from quickbythen.lanes import first_bad_row, lanes_with, told_lanes
from quickbythen.nets import Net
from quickbythen.refusals import BadAnswer, BadBox, BadBundles, BadMost, Unfit
from quickbythen.workshops import Workshop


def rest_by(lanes, rate):
    """The length of the first lane by which there is room for a rate, None if there is none."""
    room = 0
    for length, more in lanes:
        room += more
        if not is_less((room, 1), rate):
            return length
    return None


def rest_of(bundle, rate):
    """The length to which through comes at last with steady comers of a rate, None if it grows for ever."""
    lanes = told_lanes(bundle)
    return rest_by(lanes, told_rate(rate))


def is_longer(one, other):
    """Whether of two answers one tells a greater length, None being greater than all."""
    if one is None or other is None:
        return one is None and other is not None
    return one > other


class Asking:
    """A box that is asked, and all its answers by the rates."""

    def __init__(self, box, most):
        self.box = box
        self.most = most
        self.answers = {}

    def ask(self, rate):
        """Ask a rate; BadAnswer for what is no answer."""
        box = self.box
        answer = box(rate)
        if answer is not None and not is_count(answer):
            raise BadAnswer(answer)
        self.answers[rate] = answer

    def ask_between(self, low, high):
        """Ask a rate halfway between two, and tell it; Unfit if what is answered does not fit in between."""
        rate = (low + high) // 2
        self.ask(rate)
        if is_longer(self.answers[low], self.answers[rate]):
            raise Unfit([low, rate])
        if high in self.answers and is_longer(self.answers[rate], self.answers[high]):
            raise Unfit([rate, high])
        return rate

    def last_with(self, low, highs):
        """The greatest rate that is answered as low is; highs, rates above it that were asked, the least one last."""
        while highs and self.answers[highs[-1]] == self.answers[low]:
            low = highs.pop()
        high = highs[-1] if highs else self.most + 1
        while high - low > 1:
            rate = self.ask_between(low, high)
            if self.answers[rate] == self.answers[low]:
                low = rate
            else:
                highs.append(rate)
                high = rate
        return low

    def learn(self):
        """The lanes of a bundle that has all answers."""
        self.ask(1)
        if self.answers[1] is None:
            raise Unfit([1])
        rooms = []
        highs = [1]
        # What is behind the last rate of an answer was asked, too, unless that is the greatest rate of all.
        while highs and self.answers[highs[-1]] is not None:
            low = highs.pop()
            rooms.append((self.answers[low], self.last_with(low, highs)))
        return lanes_with(rooms)


def learned_lanes(box, most):
    """The lanes of a bundle into which nobody can look, learned by asking for rests."""
    if box is None or isinstance(box, (int, str, list, tuple, dict, Net, Workshop, QuickError)):
        raise BadBox(box)
    if not is_count(most):
        raise BadMost(most)
    return Asking(box, most).learn()


def all_lanes(bundles):
    """The unlike lists of lanes in a list of bundles; BadBundles for what is none."""
    if not is_list(bundles):
        raise BadBundles(0)
    found = []
    for index, bundle in enumerate(bundles):
        if first_bad_row(bundle) is not None:
            raise BadBundles(index)
        lanes = told_lanes(bundle)
        if lanes not in found:
            found.append(lanes)
    return found


def turning_rates(kinds):
    """The least integer rates, ascending, with each list of rests: rests turn only a little above sums of rooms."""
    rates = {1: True}
    for lanes in kinds:
        room = 0
        for _, more in lanes:
            room += more
            rates[room + 1] = True
    return sorted(rates)


def are_told_apart(kinds, rates):
    """Whether each two have unlike rests by some rate."""
    seen = []
    for lanes in kinds:
        rests = [rest_by(lanes, (rate, 1)) for rate in rates]
        if rests in seen:
            return False
        seen.append(rests)
    return True


def fewest_rates(bundles):
    """The first of the shortest ascending lists of rates by which all unlike bundles of a list are told apart."""
    kinds = all_lanes(bundles)
    rates = turning_rates(kinds)
    # One rate more tells at least one kind more apart: so there are fewer rates than kinds.
    for many in range(len(kinds)):
        for chosen in combinations(rates, many):
            if are_told_apart(kinds, chosen):
                return list(chosen)
    return []
