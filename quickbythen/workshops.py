"""The workshop: things by names, promises about them that are kept, and all deeds back and on."""

from quickbythen.checks import told_many
from quickbythen.compared import first_later
from quickbythen.course import check_way
from quickbythen.naming import (kind_of, meant, net_by, plans_on, steps_by, things_with, told_again)
from quickbythen.nets import Net
from quickbythen.promises import (index_of, is_about, is_kept, is_promise_on, names_in, shown_by, told_promise)
from quickbythen.refusals import (BadPromise, BadThing, Broken, InUse, NoNet, NoStream, NotKept, NotWatched, OtherKind,
                                  Watched)
from quickbythen.shown import plan_until


class Workshop:
    """Nets, streams and plans by names, and promises that are watched.

    What names mean and what is watched is never changed, but exchanged for a new dict or list:
    so what a deed takes back, what a twin has and what a trial leaves is kept as it was.
    """

    def __init__(self):
        self._things = {}
        self._promises = []
        self._past = []
        self._later = []

    def _do(self, word, things, promises):
        """Do a deed, by which names mean these things and these promises are watched."""
        self._past = self._past + [(word, self._things, self._promises)]
        self._later = []
        self._things = things
        self._promises = promises

    def _broken(self, name, things):
        """The watched promises that do not hold, or are none, if names mean these things: all but one as they do."""
        return [promise for promise in self._promises
                if is_about(things, promise, name) and not is_kept(things, promise)]

    def _put_by(self, word, name, thing):
        """Put a thing, by a deed with a word."""
        things = things_with(self._things, name, thing)
        broken = self._broken(name, things)
        if broken:
            raise Broken(broken[0])
        self._do(word, things, self._promises)

    def put(self, name, thing):
        """Have a name mean a thing."""
        self._put_by("put", name, thing)

    def settle(self, name, net, stream, many):
        """Put the plan by which nobody gains, of the net and the comers that two names mean."""
        found = net_by(self._things, net)
        if found is None:
            raise NoNet(net)
        steps = steps_by(self._things, stream)
        if steps is None:
            raise NoStream(stream)
        plan = plan_until(found, steps, many)[0]
        self._put_by("settle", name, ("plan", net, plan))

    def take(self, name):
        """Have a name mean nothing more."""
        meant(self._things, name)
        users = plans_on(self._things, name)
        for promise in self._promises:
            if name in names_in(promise):
                users.append(promise)
        if users:
            raise InUse(users[0])
        self._do("take", {other: self._things[other] for other in self._things if other != name}, self._promises)

    def thing(self, name):
        """What a name means."""
        return told_again(meant(self._things, name))

    def names(self):
        """The dict, ascending, from the names to the kinds of what they mean."""
        return {name: kind_of(self._things[name]) for name in sorted(self._things)}

    def users(self, name):
        """The ascending list of the names that mean plans on this net."""
        meant(self._things, name)
        return plans_on(self._things, name)

    def is_promise(self, thing):
        """Whether a thing is a promise now."""
        return is_promise_on(self._things, thing)

    def holds(self, promise):
        """Whether a promise holds."""
        return self.shown(promise)[0]

    def shown(self, promise):
        """Whether a promise holds, and what shows it."""
        if not is_promise_on(self._things, promise):
            raise BadPromise(promise)
        return shown_by(self._things, promise)

    def watch(self, promise):
        """Have a promise kept from now on."""
        if not is_promise_on(self._things, promise):
            raise BadPromise(promise)
        if index_of(self._promises, promise) is not None:
            raise Watched(promise)
        if not shown_by(self._things, promise)[0]:
            raise NotKept(promise)
        self._do("watch", self._things, self._promises + [told_promise(promise)])

    def unwatch(self, promise):
        """Have a promise kept no more."""
        index = index_of(self._promises, promise)
        if index is None:
            raise NotWatched(promise)
        self._do("unwatch", self._things, self._promises[:index] + self._promises[index + 1:])

    def watched(self):
        """The list of the watched promises, in the order in which they came."""
        return list(self._promises)

    def broken_by(self, name, thing):
        """The list of the watched promises that would not hold, or would be none, behind a put."""
        return self._broken(name, things_with(self._things, name, thing))

    def moved_by(self, name, net, many):
        """By names of streams, behind which moment somebody is later in a net than in the one that a name means."""
        found = meant(self._things, name)
        if not isinstance(found, Net):
            raise OtherKind(kind_of(found))
        if not isinstance(net, Net):
            raise BadThing(net)
        number = told_many(many)
        check_way(found)
        check_way(net)
        moved = {}
        for stream in sorted(self._things):
            steps = steps_by(self._things, stream)
            if steps is not None:
                moved[stream] = first_later(found, steps, net, steps, number)
        return moved

    def undo(self):
        """Take the last deed back; its word, None if there is none."""
        if not self._past:
            return None
        word, things, promises = self._past[-1]
        self._later = self._later + [(word, self._things, self._promises)]
        self._past = self._past[:-1]
        self._things = things
        self._promises = promises
        return word

    def redo(self):
        """Do the deed again that was taken back last; its word, None if there is none."""
        if not self._later:
            return None
        word, things, promises = self._later[-1]
        self._past = self._past + [(word, self._things, self._promises)]
        self._later = self._later[:-1]
        self._things = things
        self._promises = promises
        return word

    def done(self):
        """The list of the words of the deeds that are done and not taken back."""
        return [deed[0] for deed in self._past]

    def twin(self):
        """Another workshop that is the same, and goes on by itself."""
        other = Workshop()
        other._things = self._things
        other._promises = self._promises
        other._past = self._past
        other._later = self._later
        return other

    def trial(self, work):
        """What a function returns that works with this workshop; all is as ahead of it then."""
        things = self._things
        promises = self._promises
        past = self._past
        later = self._later
        try:
            return work(self)
        finally:
            self._things = things
            self._promises = promises
            self._past = past
            self._later = later

    def __eq__(self, other):
        return (isinstance(other, Workshop) and self._things == other._things
                and self._promises == other._promises)
