"""Who waits for whom in a machine, and the rings of those that stand still."""

from everypipe.kinds import is_listed
from everypipe.machineforms import name_of
from everypipe.machines import Machine
from everypipe.refusals import BadMachine, BadProcess


def check_machine(machine):
    if not isinstance(machine, Machine):
        raise BadMachine(machine)


def holders_now(machine, name):
    """As holders_of, of a process that was begun."""
    wait = machine.waiting(name)
    if wait is None:
        return []
    word, thing = wait
    if word == "wait":
        return [thing]
    lead = ("pipe", thing, "put" if word == "take" else "take")
    return [other for other in machine.left() if lead in list(machine.table(other).values())]


def holders_of(machine, process):
    check_machine(machine)
    name = name_of(process)
    if name is None or name not in machine.processes():
        raise BadProcess(process)
    return holders_now(machine, name)


def stands_still(machine):
    return machine.is_whole() and len(machine.left()) > 0


def way_from(holders, name):
    """The way from a process by least holders to the first one that comes a second time."""
    way = [name]
    while way[-1] not in way[:-1]:
        way.append(holders[way[-1]][0])
    return way


def all_holders(machine):
    """The dict from all that are left to the holders on which they wait."""
    return {name: holders_now(machine, name) for name in machine.left()}


def least_first(ring):
    at = ring.index(min(ring))
    return [*ring[at:], *ring[:at]]


def ring_now(machine):
    """As ring_of, of a machine."""
    if not stands_still(machine):
        return None
    way = way_from(all_holders(machine), machine.left()[0])
    return least_first(way[way.index(way[-1]):-1])


def ring_of(machine):
    check_machine(machine)
    return ring_now(machine)


def is_ring(machine, thing):
    check_machine(machine)
    if not is_listed(thing) or len(thing) == 0:
        return False
    names = [name_of(part) for part in thing]
    left = machine.left()
    if not all([name is not None and name in left for name in names]):
        return False
    if len(set(names)) < len(names) or names[0] != min(names):
        return False
    nexts = [*names[1:], names[0]]
    return all([other in holders_now(machine, name) for name, other in zip(names, nexts)])


def ways_to_ring(machine):
    check_machine(machine)
    if not stands_still(machine):
        return {}
    holders = all_holders(machine)
    return {name: way_from(holders, name) for name in machine.left()}
