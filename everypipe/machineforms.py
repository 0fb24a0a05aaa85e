"""What a machine is made of: holders with their tables, rooms, signals; each is looked at and taken over."""

from everypipe.errors import BadHolders, BadRooms, BadSignals
from everypipe.filetrees import is_file, is_path, opening_word, put_file, thing_at
from everypipe.kinds import is_listed, is_listed_of, is_number, word_of
from everypipe.signs import is_process_name, is_signal
from everypipe.wishes import WAYS, is_actor, is_descriptor, is_side
from everypipe.worlds import Handle


def name_of(thing):
    """The name, a tuple, that a thing is as a list or a tuple; None if it is none."""
    return tuple(thing) if is_process_name(thing) else None


def is_holder_lead(thing):
    word = word_of(thing)
    if word == "pipe":
        is_pipe = len(thing) == 3 and is_listed_of(thing[1], 1) and is_number(thing[1][0])
        return is_pipe and is_side(thing[2])
    if word == "file":
        return len(thing) == 3 and is_path(thing[1]) and isinstance(thing[2], str) and thing[2] in WAYS
    return word == "lines" and len(thing) == 2 and is_file(thing[1])


def is_holder(thing):
    if not is_listed_of(thing, 2) or not is_actor(thing[0]) or not isinstance(thing[1], dict):
        return False
    return all([is_descriptor(n) and is_holder_lead(lead) for n, lead in thing[1].items()])


def opened_lead(world, lead):
    """What a holder's descriptor leads to; None if it is a file that cannot be opened."""
    if lead[0] == "pipe":
        pipe = tuple(lead[1])
        world.pipes.setdefault(pipe, [])
        return ("pipe", pipe, lead[2])
    name = (-1, len(world.handles))
    if lead[0] == "lines":
        world.handles[name] = Handle(None, list(lead[1]))
        return ("lines", name)
    path, way = lead[1], lead[2]
    if opening_word(world.tree, path, way) != "":
        return None
    if way == "cut" or thing_at(world.tree, path) is None:
        put_file(world.tree, path, [])
    world.handles[name] = Handle(path, None)
    return ("file", path, way, name)


def opened_holders(world, holders):
    """The list of the pairs (actor, table) of holders, their files opened."""
    if not is_listed(holders) or len(holders) == 0:
        raise BadHolders(0)
    told = []
    for at, holder in enumerate(holders):
        if not is_holder(holder):
            raise BadHolders(at)
        leads = {}
        for n in sorted(holder[1]):
            lead = opened_lead(world, holder[1][n])
            if lead is None:
                raise BadHolders(at)
            leads[n] = lead
        told.append((holder[0], leads))
    return told


def told_rooms(rooms):
    """A copy of rooms."""
    if not isinstance(rooms, dict) or () not in rooms:
        raise BadRooms(rooms)
    for pipe, room in rooms.items():
        if not isinstance(pipe, tuple) or not all([is_number(part) for part in pipe]):
            raise BadRooms(rooms)
        if not is_number(room) or room == 0:
            raise BadRooms(rooms)
    return {pipe: room for pipe, room in rooms.items()}


def told_signals(signals):
    """A copy of signals, all of them tuples."""
    if not is_listed(signals):
        raise BadSignals(0)
    told = []
    last = {}
    for at, signal in enumerate(signals):
        if not is_signal(signal) or last.get(tuple(signal[0]), 0) > signal[1]:
            raise BadSignals(at)
        told.append((tuple(signal[0]), signal[1], signal[2]))
        last[tuple(signal[0])] = signal[1]
    return told
