"""Rows of deeds that fit a net, what happened ahead of what in them, and which deeds depend on one another."""

from everypipe.aheads import Links, pasts_of
from everypipe.deedforms import deed_of
from everypipe.kinds import is_listed
from everypipe.nets import Fitting, Net, is_net
from everypipe.refusals import BadDeed, BadNet, BadRow


def first_misfit(net, row):
    """As misfit, of a net in a copy."""
    if not is_listed(row):
        return (0, "form")
    deeds = [deed_of(thing) for thing in row]
    fitting = Fitting(net, deeds)
    for at, deed in enumerate(deeds):
        if deed is None:
            return (at, "form")
        if not fitting.can(deed):
            return (at, "order")
        fitting.do(deed)
    return None


def misfit(net, row):
    if not is_net(net):
        raise BadNet(net)
    return first_misfit(Net(net), row)


def links_of(net, row):
    """The links of a row; both are looked at."""
    if not is_net(net):
        raise BadNet(net)
    told = Net(net)
    if first_misfit(told, row) is not None:
        raise BadRow(row)
    return Links(told, [deed_of(thing) for thing in row])


def counts(net, row):
    return pasts_of(links_of(net, row))


def made_path(deed):
    """The path of the file that a make makes."""
    return deed[3] if deed[2] == "" else deed[2] + "/" + deed[3]


def path_of(deed):
    """The path that a deed is of, None if it is of none."""
    word, thing = deed[1], deed[2]
    if word in ("write", "cut", "find", "list"):
        return thing
    if word == "make":
        return made_path(deed)
    return thing[0] if word in ("read", "done") else None


def is_changed_by(one, other):
    """Whether one changes, or makes, or signs to, what the other one is of."""
    word = one[1]
    if word in ("write", "cut"):
        return other[1] in ("write", "cut", "read", "done") and path_of(other) == one[2]
    if word == "make":
        return path_of(other) == made_path(one) or (other[1] == "list" and other[2] == one[2])
    return word == "signal" and one[2] == other[0]


def are_dependent(one, other):
    """As dependent, of deeds in copies."""
    if one[0] == other[0]:
        return False
    for words in (("put", "broken"), ("take", "heard")):
        if one[1] in words and other[1] in words:
            return one[2] is not None and one[2] == other[2]
    if one[1] in ("read", "done") and other[1] in ("read", "done"):
        return one[2][1] == other[2][1]
    return is_changed_by(one, other) or is_changed_by(other, one)


def dependent(one, other):
    former, latter = deed_of(one), deed_of(other)
    if former is None:
        raise BadDeed(one)
    if latter is None:
        raise BadDeed(other)
    return are_dependent(former, latter)


def past_to_order(links, pasts, at):
    """The past of a deed that orders it behind others; of a put or a take it is that of what its process did before."""
    if links.row_deeds[at][1] not in ("put", "broken", "take", "heard"):
        return pasts[at]
    own = links.own[at]
    return {} if own is None else pasts[own]


def touched(deed):
    """What a deed is of: of two that are dependent, and no signals, both are of one such thing."""
    word, thing = deed[1], deed[2]
    if word in ("put", "broken", "take", "heard"):
        side = "put" if word in ("put", "broken") else "take"
        return [] if thing is None else [(side, thing)]
    path = path_of(deed)
    things = [] if path is None else [("path", path)]
    if word in ("read", "done"):
        things.append(("handle", thing[1]))
    return [*things, ("names", thing)] if word in ("make", "list") else things


class Meetings:
    """The deeds of a row so far, by what they are of, by who did them, and by whom they sign to."""

    def __init__(self):
        self.by_thing = {}
        self.by_process = {}
        self.by_receiver = {}

    def put(self, at, deed):
        for thing in touched(deed):
            self.by_thing.setdefault(thing, []).append(at)
        self.by_process.setdefault(deed[0], []).append(at)
        if deed[1] == "signal":
            self.by_receiver.setdefault(deed[2], []).append(at)

    def with_deed(self, deed):
        """The ascending list of the deeds so far that may be dependent on one."""
        found = {at: True for at in self.by_receiver.get(deed[0], [])}
        for thing in touched(deed):
            found.update({at: True for at in self.by_thing.get(thing, [])})
        if deed[1] == "signal":
            found.update({at: True for at in self.by_process.get(deed[2], [])})
        return sorted(found)


def dependent_ahead(deeds):
    """For each deed of a row the ascending list of those ahead in the row that are dependent on it."""
    meetings = Meetings()
    found = []
    for at, deed in enumerate(deeds):
        found.append([former for former in meetings.with_deed(deed) if are_dependent(deeds[former], deed)])
        meetings.put(at, deed)
    return found


def pair_by(links, pasts):
    """The first pair of dependent deeds of which the former is not in the past of the later, None if there is none."""
    deeds = links.row_deeds
    for later, formers in enumerate(dependent_ahead(deeds)):
        past = past_to_order(links, pasts, later)
        for former in formers:
            name = deeds[former][0]
            if pasts[former][name] > past.get(name, 0):
                return (former, later)
    return None


def first_pair(net, row):
    links = links_of(net, row)
    return pair_by(links, pasts_of(links))
