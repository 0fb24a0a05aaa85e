"""What a machine has: files, pipes, handles, processes, the row of its deeds."""

from everypipe.filetrees import copied
from everypipe.folk import copied_process, sides_of


class Handle:
    """A file, or a list of lines (path is None then), with the place up to which it was read."""

    def __init__(self, path, lines):
        self.path = path
        self.lines = lines
        self.place = 0


class World:
    """sides has for each pair (pipe, side) how many processes that are not over hold it."""

    def __init__(self, tree, rooms, signals):
        self.tree = tree
        self.rooms = rooms
        self.signals = signals
        self.pipes = {}
        self.sides = {}
        self.handles = {}
        self.folk = {}
        self.begun_names = []
        self.row = []

    def begin(self, process):
        self.folk[process.name] = process
        self.begun_names = sorted([*self.begun_names, process.name])
        for pair in sides_of(process.leads):
            self.sides[pair] = self.sides.get(pair, 0) + 1
        self.put_signals(process)

    def put_signals(self, process):
        """The signals from outside that are due now become pending."""
        for name, many, sign in self.signals:
            if name == process.name and many == process.deeds_done:
                process.pending.append(sign)

    def is_closed(self, pipe, side):
        return self.sides.get((pipe, side), 0) == 0

    def room(self, pipe):
        return self.rooms.get(pipe, self.rooms[()])

    def changed_leads(self, process, leads):
        """Give a process another table; the tuple of the pairs (pipe, side) that it holds no more."""
        before = sides_of(process.leads)
        after = sides_of(leads)
        gone = [pair for pair in before if pair not in after]
        for pair in gone:
            self.sides[pair] = self.sides[pair] - 1
        for pair in after:
            if pair not in before:
                self.sides[pair] = self.sides.get(pair, 0) + 1
        process.leads = leads
        return tuple(gone)

    def told(self, process, word, thing, what):
        """Put a deed behind all others, and tell it."""
        deed = (process.name, word, thing, what)
        self.row.append(deed)
        process.deeds_done = process.deeds_done + 1
        self.put_signals(process)
        return deed


def copied_handle(handle):
    other = Handle(handle.path, handle.lines)
    other.place = handle.place
    return other


def copied_world(world):
    other = World(copied(world.tree), world.rooms, world.signals)
    other.pipes = {pipe: list(lines) for pipe, lines in world.pipes.items()}
    other.sides = {pair: many for pair, many in world.sides.items()}
    other.handles = {name: copied_handle(handle) for name, handle in world.handles.items()}
    other.folk = {name: copied_process(process) for name, process in world.folk.items()}
    other.begun_names = list(world.begun_names)
    other.row = list(world.row)
    return other


def is_handle_alike(one, other):
    return one.path == other.path and one.lines == other.lines and one.place == other.place


def are_leads_alike(one, other, process, twin):
    """Whether the tables of two processes, each of one world, are alike, with what their handles have."""
    if process.leads != twin.leads:
        return False
    names = [lead[-1] for lead in process.leads.values() if lead[0] != "pipe"]
    return all([is_handle_alike(one.handles[name], other.handles[name]) for name in names])


def are_folk_alike(one, other):
    if one.begun_names != other.begun_names:
        return False
    for name in one.begun_names:
        process, twin = one.folk[name], other.folk[name]
        if process.outcome != twin.outcome or process.pending != twin.pending or process.answers != twin.answers:
            return False
        if not are_leads_alike(one, other, process, twin):
            return False
        if not (process.actor == twin.actor):
            return False
    return True


def are_alike(one, other):
    if one.tree != other.tree or one.pipes != other.pipes or one.rooms != other.rooms:
        return False
    return one.signals == other.signals and one.row == other.row and are_folk_alike(one, other)
