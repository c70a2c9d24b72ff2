"""Names and what they mean: dicts from names to nets and to told tuples, which nobody changes."""

from quickbythen.checks import first_bad_comer, told_comers
from quickbythen.kinds import is_list
from quickbythen.nets import Net
from quickbythen.parts import Part, is_part, steps_in
from quickbythen.plans import is_plan, told_plan
from quickbythen.refusals import BadName, BadThing, NoName, NoNet, NoPlan, OtherKind


def is_name(thing):
    """Whether a thing is a name."""
    if not isinstance(thing, str) or not 1 <= len(thing) <= 8:
        return False
    small = "abcdefghijklmnopqrstuvwxyz"
    return thing[0] in small and all([sign in small + "0123456789" for sign in thing])


def means(things, name):
    """What any object means, None if it means nothing."""
    if not isinstance(name, str):
        return None
    return things.get(name)


def meant(things, name):
    """What a name means; NoName for what means nothing."""
    found = means(things, name)
    if found is None:
        raise NoName(name)
    return found


def kind_of(thing):
    """The kind of a told thing."""
    if isinstance(thing, Net):
        return "net"
    return "plan" if thing[0] == "plan" else "stream"


def net_by(things, name):
    """The net that any object means, None if it means none."""
    found = means(things, name)
    return found if isinstance(found, Net) else None


def steps_by(things, name):
    """The told comers that any object means, None if it means none."""
    found = means(things, name)
    if found is None or kind_of(found) != "stream":
        return None
    return found[1] if found[0] == "comers" else steps_in(Part(found[1]))


def plan_by(things, name):
    """The pair of a net and a told plan that any object means, None if it means none."""
    found = means(things, name)
    if found is None or kind_of(found) != "plan":
        return None
    return (things[found[1]], found[2])


def plans_on(things, name):
    """The ascending list of the names that mean plans on the net that a name means."""
    return [user for user in sorted(things) if kind_of(things[user]) == "plan" and things[user][1] == name]


def told_stream(thing):
    """The told tuple of comers or a schedule that a thing is, None if it is none."""
    if not is_list(thing) or len(thing) != 2:
        return None
    if thing[0] == "comers" and first_bad_comer(thing[1]) is None:
        return ("comers", told_comers(thing[1]))
    if thing[0] == "schedule" and is_part(thing[1]):
        return ("schedule", Part(thing[1]).told())
    return None


def told_meaning(things, thing):
    """A thing as it is told; BadThing for what is none, NoNet and BadPlan for plans that are none by these names."""
    if isinstance(thing, Net):
        return thing
    if is_list(thing) and len(thing) == 3 and thing[0] == "plan" and is_name(thing[1]):
        net = net_by(things, thing[1])
        if net is None:
            raise NoNet(thing[1])
        return ("plan", thing[1], told_plan(net, thing[2]))
    found = told_stream(thing)
    if found is None:
        raise BadThing(thing)
    return found


def told_again(thing):
    """A told thing once more, all lists in it new ones."""
    if isinstance(thing, Net):
        return thing
    if thing[0] == "comers":
        return ("comers", list(thing[1]))
    if thing[0] == "schedule":
        return ("schedule", Part(thing[1]).told())
    return ("plan", thing[1], [(list(way), list(comers)) for way, comers in thing[2]])


def things_with(things, name, thing):
    """What names mean if a name means a thing from now on; the errors of put, but not Broken."""
    if not is_name(name):
        raise BadName(name)
    told = told_meaning(things, thing)
    if name in things and kind_of(things[name]) != kind_of(told):
        raise OtherKind(kind_of(things[name]))
    if isinstance(told, Net):
        for user in plans_on(things, name):
            if not is_plan(told, things[user][2]):
                raise NoPlan(user)
    found = {other: things[other] for other in things}
    found[name] = told
    return found
