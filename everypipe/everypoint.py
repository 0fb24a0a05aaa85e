"""Signs at every point of a process: what each of them leaves, and which files it leaves torn."""

from everypipe.filelists import files_of
from everypipe.kinds import is_listed
from everypipe.likeness import is_like
from everypipe.machines import Machine
from everypipe.refusals import BadAllowed, BadProcess, BadSign
from everypipe.signs import is_process_name, is_sign_word

# More deeds than any run that is looked at here has.
GREATEST_RUN = 10000


def plain_run(tree, holders, rooms, process):
    """The machine behind its plain run, in which the process is begun."""
    machine = Machine(tree, holders, rooms)
    machine.run([], GREATEST_RUN)
    if not is_process_name(process) or tuple(process) not in machine.processes():
        raise BadProcess(process)
    return machine


def many_deeds(machine, process):
    return len([deed for deed in machine.deeds() if deed[0] == tuple(process)])


def left_by(machine, holders):
    return (machine.files(), [machine.status((at,)) for at in range(len(holders))])


def points_of(tree, holders, rooms, process):
    return many_deeds(plain_run(tree, holders, rooms, process), process)


def all_left(tree, holders, rooms, process, sign):
    """What the sign at each point leaves, and, behind all, what the plain run does."""
    machine = plain_run(tree, holders, rooms, process)
    if not is_sign_word(sign):
        raise BadSign(sign)
    found = []
    for point in range(many_deeds(machine, process) + 1):
        other = Machine(tree, holders, rooms, [(process, point, sign)])
        other.run([], GREATEST_RUN)
        found.append(left_by(other, holders))
    return [*found, left_by(machine, holders)]


def left_at(tree, holders, rooms, process, sign):
    return all_left(tree, holders, rooms, process, sign)[:-1]


def first_other(tree, holders, rooms, process, sign, allowed):
    found = left_at(tree, holders, rooms, process, sign)
    if not is_listed(allowed):
        raise BadAllowed(allowed)
    for point, left in enumerate(found):
        if not any([is_like(thing, left) for thing in allowed]):
            return (point, left)
    return None


def torn_at(tree, holders, rooms, process, sign):
    """For each point the ascending list of the paths of the files that are torn there."""
    found = all_left(tree, holders, rooms, process, sign)
    before = dict(files_of(Machine(tree, holders, rooms).files()))
    behind = dict(files_of(found[-1][0]))
    torn = []
    for files, _ in found[:-1]:
        pairs = files_of(files)
        other = [(path, lines) for path, lines in pairs if before.get(path, None) != lines]
        torn.append([path for path, lines in other if behind.get(path, None) != lines])
    return torn


def torn_files(tree, holders, rooms, process, sign):
    found = {path: True for paths in torn_at(tree, holders, rooms, process, sign) for path in paths}
    return sorted(found)


def first_torn(tree, holders, rooms, process, sign):
    for point, paths in enumerate(torn_at(tree, holders, rooms, process, sign)):
        if len(paths) > 0:
            return (point, paths[0])
    return None
