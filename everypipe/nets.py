"""Nets, and rows of deeds that fit them: what each deed finds when it is done, by pipes alone."""

from everypipe.deedforms import is_end
from everypipe.kinds import is_listed, is_listed_of, is_number

BROKEN = 141


def is_name_of_things(thing):
    return isinstance(thing, tuple) and len(thing) > 0 and all([is_number(part) for part in thing])


def are_ends(thing, rooms):
    """Whether a thing is an ascending list of ends of pipes that have rooms."""
    if not is_listed(thing) or not all([is_end(end) for end in thing]):
        return False
    ends = [(tuple(end[0]), end[1]) for end in thing]
    if not all([ends[at] < ends[at + 1] for at in range(len(ends) - 1)]):
        return False
    return all([pipe in rooms for pipe, _ in ends])


def is_net(thing):
    if not is_listed_of(thing, 2) or not isinstance(thing[0], dict) or not isinstance(thing[1], dict):
        return False
    for pipe, room in thing[0].items():
        if not is_name_of_things(pipe) or not is_number(room) or room == 0:
            return False
    return all([is_name_of_things(name) and are_ends(ends, thing[0]) for name, ends in thing[1].items()])


class Net:
    """A right net in a copy: may_hold is the dict from processes, ascending, to the ends that it lets them hold."""

    def __init__(self, net):
        self.rooms = {pipe: net[0][pipe] for pipe in net[0]}
        self.may_hold = {name: [(tuple(end[0]), end[1]) for end in net[1][name]] for name in sorted(net[1])}

    def holders(self, pipe, side):
        """The processes that may hold an end."""
        return [name for name, ends in self.may_hold.items() if (pipe, side) in ends]

    def handed(self, process):
        """The ends that a process has from its beginning on."""
        return [end for end in self.may_hold[process] if end[0][:-1] != process]


def things_started(deeds):
    """The dicts of all children, and of all pipes, of the starts among some deeds, None standing for no deed."""
    children = {}
    pipes = {}
    for deed in deeds:
        if deed is not None and deed[1] == "start":
            for child in deed[2]:
                children[child] = True
            for pipe in deed[3]:
                pipes[pipe] = True
    return (children, pipes)


def next_names(process, taken, many):
    """The least names of so many children, or pipes, of a process that are not yet taken."""
    names = []
    number = 0
    while len(names) < many:
        if (*process, number) not in taken:
            names.append((*process, number))
        number += 1
    return tuple(names)


class Fitting:
    """How a net stands behind some deeds that fit: held are the ends that each process that began holds now.

    outcomes are the statuses of those that are over, pipes_there the pipes that are there.
    """

    def __init__(self, net, deeds):
        self.net = net
        self.lines = {pipe: [] for pipe in net.rooms}
        self.held = {}
        self.outcomes = {}
        children, pipes = things_started(deeds)
        for name in net.may_hold:
            if name not in children:
                self.begin(name)
        self.pipes_there = {pipe: True for pipe in net.rooms if pipe not in pipes}

    def begin(self, name):
        self.held[name] = self.net.handed(name)

    def holds(self, process, pipe, side):
        return (pipe, side) in self.held[process]

    def is_closed(self, pipe, side):
        return not any([(pipe, side) in ends for ends in self.held.values()])

    def can(self, deed):
        """Whether a deed can be done now."""
        process, word, thing, what = deed
        if process not in self.held or process in self.outcomes:
            return False
        if word in ("take", "heard", "put", "broken"):
            return thing is None or (thing in self.net.rooms and self.can_at_pipe(process, word, thing, what))
        if word == "drop":
            return self.holds(process, thing[0], thing[1])
        if word == "become":
            is_ascending = all([thing[at] < thing[at + 1] for at in range(len(thing) - 1)])
            return is_ascending and all([self.holds(process, pipe, side) for pipe, side in thing])
        if word == "start":
            return self.can_start(process, thing, what)
        if word in ("wait", "ask") or (word == "over" and thing is not None):
            return thing in self.outcomes and (word == "wait" or self.outcomes[thing] == what)
        return True

    def can_at_pipe(self, process, word, pipe, line):
        lines = self.lines[pipe]
        if word in ("take", "heard"):
            if not self.holds(process, pipe, "take"):
                return False
            return lines[:1] == [line] if word == "take" else len(lines) == 0 and self.is_closed(pipe, "put")
        if not self.holds(process, pipe, "put"):
            return False
        is_closed = self.is_closed(pipe, "take")
        return is_closed if word == "broken" else not is_closed and len(lines) < self.net.rooms[pipe]

    def can_start(self, process, children, pipes):
        if children != next_names(process, self.held, len(children)):
            return False
        if pipes != next_names(process, self.pipes_there, len(pipes)):
            return False
        if not all([pipe in self.net.rooms for pipe in pipes]):
            return False
        for child in children:
            if child not in self.net.may_hold:
                return False
            if not all([end[0] in pipes or end in self.held[process] for end in self.net.handed(child)]):
                return False
        return True

    def gone(self, deed):
        """The ends that its process lets go with a deed that can be done now."""
        process, word, thing, _ = deed
        if word == "drop":
            return [thing]
        if word == "become":
            return list(thing)
        return list(self.held[process]) if word in ("over", "broken") else []

    def do(self, deed):
        """Do a deed that can be done now."""
        process, word, thing, what = deed
        gone = self.gone(deed)
        self.held[process] = [end for end in self.held[process] if end not in gone]
        if word == "put" and thing is not None:
            self.lines[thing].append(what)
        elif word == "take":
            del self.lines[thing][0]
        elif word in ("over", "broken"):
            self.outcomes[process] = what if word == "over" else BROKEN
        elif word == "start":
            for child in thing:
                self.begin(child)
            self.pipes_there.update({pipe: True for pipe in what})
            own = [end for end in self.net.may_hold[process] if end[0] in what]
            self.held[process] = [*self.held[process], *own]
