"""Machines: processes that do deeds one behind another, picked by schedules."""

from everypipe.doings import do_step, waiting_for
from everypipe.errors import BadMany, BadPipe, BadTree
from everypipe.filetrees import copied, is_tree
from everypipe.folk import Process
from everypipe.kinds import is_listed, is_number
from everypipe.machineforms import name_of, opened_holders, told_rooms, told_signals
from everypipe.refusals import BadProcess, BadSchedule, CannotStep
from everypipe.worlds import World, are_alike, copied_world


def told_deed(deed):
    """A deed with a list of its own."""
    return (*deed[:3], list(deed[3])) if isinstance(deed[3], list) else deed


def schedule_fault(schedule):
    """The index of the first thing that is no number, 0 for no list, None if it is a schedule."""
    if not is_listed(schedule):
        return 0
    for at, number in enumerate(schedule):
        if not is_number(number):
            return at
    return None


def check_schedule(schedule):
    fault = schedule_fault(schedule)
    if fault is not None:
        raise BadSchedule(fault)


def check_run(schedule, many):
    check_schedule(schedule)
    if not is_number(many):
        raise BadMany(many)


def picked(able, schedule, at, last):
    """Which of the processes that can does the deed at an index, behind one by the process last, None at first."""
    if at < len(schedule):
        return able[schedule[at] % len(able)]
    greater = [name for name in able if last is not None and name > last]
    return greater[0] if len(greater) > 0 else able[0]


class Machine:
    def __init__(self, tree, holders, rooms, signals=()):
        if not is_tree(tree):
            raise BadTree(tree)
        world = World(copied(tree), {(): 1}, [])
        told = opened_holders(world, holders)
        world.rooms = told_rooms(rooms)
        world.signals = told_signals(signals)
        for at, (actor, leads) in enumerate(told):
            world.begin(Process((at,), actor, leads))
        self.world = world

    def files(self):
        return copied(self.world.tree)

    def deeds(self):
        return [told_deed(deed) for deed in self.world.row]

    def content(self, pipe):
        name = name_of(pipe)
        if name is None or name not in self.world.pipes:
            raise BadPipe(pipe)
        return list(self.world.pipes[name])

    def begun(self, process):
        """The process with a name."""
        name = name_of(process)
        if name is None or name not in self.world.folk:
            raise BadProcess(process)
        return self.world.folk[name]

    def table(self, process):
        leads = self.begun(process).leads
        return {n: leads[n] for n in sorted(leads)}

    def status(self, process):
        return self.begun(process).outcome

    def processes(self):
        return list(self.world.begun_names)

    def shape(self):
        rooms = {pipe: self.world.room(pipe) for pipe in sorted(self.world.pipes)}
        return (rooms, {name: list(self.world.folk[name].held) for name in self.world.begun_names})

    def can(self):
        folk = [self.world.folk[name] for name in self.left()]
        return [process.name for process in folk if waiting_for(self.world, process) is None]

    def step(self, process):
        name = name_of(process)
        if name is None or name not in self.can():
            raise CannotStep(process)
        return told_deed(do_step(self.world, self.world.folk[name]))

    def run(self, schedule, many):
        check_run(schedule, many)
        deeds = []
        able = self.can()
        last = None
        while len(deeds) < many and len(able) > 0:
            last = picked(able, schedule, len(deeds), last)
            deeds.append(told_deed(do_step(self.world, self.world.folk[last])))
            able = self.can()
        return deeds

    def is_whole(self):
        return len(self.can()) == 0

    def left(self):
        return [name for name in self.world.begun_names if self.world.folk[name].outcome is None]

    def waiting(self, process):
        found = self.begun(process)
        return waiting_for(self.world, found) if found.outcome is None else None

    def copy(self):
        other = Machine({}, [(told_deed, {})], {(): 1})
        other.world = copied_world(self.world)
        return other

    def __eq__(self, other):
        return isinstance(other, Machine) and are_alike(self.world, other.world)
