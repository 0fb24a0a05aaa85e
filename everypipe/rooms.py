"""Least rooms of pipes by which a machine still ends, papers for them, and straight rows."""

from everypipe.errors import BadMost, BadRooms
from everypipe.kinds import is_number_to
from everypipe.looking import check_many, looked
from everypipe.machines import Machine
from everypipe.rings import ring_now

MOST_ROOM = 8
STRAIGHT_DEEDS = 2000


def end_word(look):
    """What a look tells of the end of a machine."""
    if look.verdict is None:
        return "many"
    if look.verdict != ("one",):
        return "other"
    return "stands" if len(look.machine.left()) > 0 else "ends"


def look_by(tree, holders, rooms, signals, many):
    machine = Machine(tree, holders, rooms, signals)
    check_many(many)
    return looked(machine, many)


def ends_by(tree, holders, rooms, signals, many):
    return end_word(look_by(tree, holders, rooms, signals, many))


def with_one_less(rooms, pipe):
    return {**rooms, pipe: rooms[pipe] - 1}


def least_rooms(tree, holders, signals, most, many):
    machine = Machine(tree, holders, {(): 1}, signals)
    if not is_number_to(most, MOST_ROOM) or most == 0:
        raise BadMost(most)
    check_many(many)
    machine = Machine(tree, holders, {(): most}, signals)
    look = looked(machine, many)
    if end_word(look) != "ends":
        return None
    rooms = {(): most}
    rooms.update({pipe: most for pipe in look.machine.shape()[0]})
    return lessened(tree, holders, rooms, signals, many)


def lessened(tree, holders, rooms, signals, many):
    """Rooms in which no single pipe can have one less, from some on by which the machine ends."""
    pipes = [pipe for pipe in rooms if pipe != ()]
    at_end = 0
    # Behind a pipe that got less all others are tried again.
    while at_end < len(pipes):
        pipe = pipes.pop(0)
        pipes.append(pipe)
        at_end += 1
        while rooms[pipe] > 1 and ends_by(tree, holders, with_one_less(rooms, pipe), signals, many) == "ends":
            rooms = with_one_less(rooms, pipe)
            at_end = 1
    return rooms


def rooms_paper(tree, holders, rooms, signals, many):
    look = look_by(tree, holders, rooms, signals, many)
    if end_word(look) != "ends" or sorted([(), *list(look.machine.shape()[0])]) != sorted(rooms):
        raise BadRooms(rooms)
    paper = {}
    for pipe in sorted(rooms):
        if pipe != () and rooms[pipe] > 1:
            less = look_by(tree, holders, with_one_less(rooms, pipe), signals, many)
            word = end_word(less)
            paper[pipe] = (word, ring_now(less.machine) if word == "stands" else None)
    return paper


def straight_ends(at, many):
    """The ends that the table of a holder of a straight row has, ascending."""
    ends = [] if at == 0 else [((at - 1,), "take")]
    return ends if at == many - 1 else [*ends, ((at,), "put")]


def is_straight(tree, holders, rooms):
    machine = Machine(tree, holders, rooms)
    names = machine.processes()
    ends = machine.shape()[1]
    if not all([ends[name] == straight_ends(name[0], len(names)) for name in names]):
        return False
    deeds = machine.run([], STRAIGHT_DEEDS)
    if not machine.is_whole():
        return False
    # Who starts nobody has nobody to wait for, or to sign to; a pipe of its own is not among those of the tables.
    return not any([deed[1] == "start" and deed[2:] != ((), ()) for deed in deeds])
