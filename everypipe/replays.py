"""Rows told again by machines: step by step, by schedules, by processes."""

from everypipe.deedforms import deed_of
from everypipe.kinds import is_listed
from everypipe.machineforms import name_of
from everypipe.refusals import BadProcesses, NotDone
from everypipe.rings import check_machine
from everypipe.rowforms import told_deeds


def does_next(machine, deed):
    """Whether a deed, or None, is what its process does next; that process goes on, if it can."""
    return deed is not None and deed[0] in machine.can() and machine.step(deed[0]) == deed


def first_undone(machine, deeds):
    """Do deeds up to the first one that is not what its process does then; its index, None if there is none."""
    for at, deed in enumerate(deeds):
        if not does_next(machine, deed):
            return at
    return None


def again(machine, row):
    check_machine(machine)
    deeds = told_deeds(row)
    copy = machine.copy()
    fault = first_undone(copy, deeds)
    if fault is not None:
        raise NotDone(fault)
    return copy


def is_done_by(machine, thing):
    check_machine(machine)
    if not is_listed(thing):
        return False
    return first_undone(machine.copy(), [deed_of(part) for part in thing]) is None


def picks_for(machine, deeds):
    """As schedule_of, of deeds in copies."""
    copy = machine.copy()
    picks = []
    for at, deed in enumerate(deeds):
        able = copy.can()
        if not does_next(copy, deed):
            raise NotDone(at)
        picks.append(able.index(deed[0]))
    return picks


def schedule_of(machine, row):
    check_machine(machine)
    return picks_for(machine, told_deeds(row))


def led(machine, processes):
    check_machine(machine)
    if not is_listed(processes):
        raise BadProcesses(0)
    copy = machine.copy()
    row = []
    for at, process in enumerate(processes):
        name = name_of(process)
        if name is None or name not in copy.can():
            raise BadProcesses(at)
        row.append(copy.step(name))
    return row
