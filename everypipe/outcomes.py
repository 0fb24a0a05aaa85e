"""What machines leave, and how two outcomes are unlike."""

from everypipe.filelists import unlike_at
from everypipe.filetrees import is_tree
from everypipe.kinds import is_listed, is_number, is_number_to, word_of
from everypipe.looking import check_many
from everypipe.machines import check_schedule
from everypipe.refusals import BadOutcome, NotWhole
from everypipe.rings import check_machine
from everypipe.scriptmachines import script_machine
from everypipe.signs import is_process_name

# What the first holder of a script takes its lines from.
LINES = (None, (-1, 0))


def outcome_now(machine):
    """As outcome_of, of a machine that is whole."""
    many = len([deed for deed in machine.deeds() if deed[1] == "read" and deed[2] == LINES])
    left = machine.left()
    if len(left) > 0:
        return ("stands", left, machine.files(), many)
    return ("ends", machine.status((0,)), machine.files(), many)


def outcome_of(machine):
    check_machine(machine)
    if not machine.is_whole():
        raise NotWhole(machine)
    return outcome_now(machine)


def script_outcome(script, tree, arguments, lines, rooms, schedule, many):
    machine = script_machine(script, tree, arguments, lines, rooms)
    check_schedule(schedule)
    check_many(many)
    machine.run(schedule, many)
    return outcome_now(machine) if machine.is_whole() else ("many",)


def are_left(thing):
    """Whether a thing is an ascending list of one name of a process or more."""
    if not is_listed(thing) or len(thing) == 0 or not all([is_process_name(name) for name in thing]):
        return False
    names = [tuple(name) for name in thing]
    return all([names[at] < names[at + 1] for at in range(len(names) - 1)])


def is_outcome(thing):
    word = word_of(thing)
    if word in ("many", "long", "none"):
        return len(thing) == 1
    if word not in ("ends", "stands") or len(thing) != 4:
        return False
    is_right = is_number_to(thing[1], 255) if word == "ends" else are_left(thing[1])
    return is_right and is_tree(thing[2]) and is_number(thing[3])


def unlike_outcomes(one, other):
    for outcome in (one, other):
        if not is_outcome(outcome):
            raise BadOutcome(outcome)
    if one[0] != other[0]:
        return ("word",)
    if len(one) == 1:
        return None
    if one[0] == "ends" and one[1] != other[1]:
        return ("status",)
    if one[0] == "stands" and [tuple(name) for name in one[1]] != [tuple(name) for name in other[1]]:
        return ("left",)
    if one[3] != other[3]:
        return ("lines",)
    path = unlike_at(one[2], other[2])
    return None if path is None else ("file", path)
