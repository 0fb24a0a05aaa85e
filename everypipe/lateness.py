"""Late rows, in which whatever bars others comes behind all that does not and can be done ahead of it."""

from everypipe.barring import bars, is_next_broken, many_barred
from everypipe.doings import do_step
from everypipe.errors import BadMany
from everypipe.kinds import is_number
from everypipe.machines import Machine, told_deed
from everypipe.nets import Fitting
from everypipe.orders import links_of
from everypipe.refusals import BadMachine


def is_late_by(links):
    """As is_late, of the links of a row that fits."""
    deeds = links.row_deeds
    latest = [max(links.all_ahead(at), default=-1) for at in range(len(deeds))]
    fitting = Fitting(links.net, deeds)
    for at, deed in enumerate(deeds):
        if bars(fitting, deed):
            behind = [later for later in range(at + 1, len(deeds)) if latest[later] < at]
            if not all([bars(fitting, deeds[later]) for later in behind]):
                return False
        fitting.do(deed)
    return True


def is_late(net, row):
    return is_late_by(links_of(net, row))


def lateness_of(world, process, put_off):
    """How late the next deed of a process is to come: the pair of a rank and of how many pipes it bars."""
    if is_next_broken(world, process):
        return (1, 0)
    many = many_barred(world, process)
    if many == 0:
        return (0, 0)
    return (3 if process.name in put_off else 2, many)


def latest_pick(world, able, put_off):
    """Which of the processes that can, ascending, does the next deed of a late run."""
    best = None
    for name in able:
        late = lateness_of(world, world.folk[name], put_off)
        if best is None or late < best[0]:
            best = (late, name)
        if late[0] == 0:
            break
    return best[1]


def run_late(machine, many, put_off):
    """Do a late run, the barring deeds of some processes being put off behind those of others; the deeds done."""
    deeds = []
    able = machine.can()
    while len(deeds) < many and len(able) > 0:
        name = latest_pick(machine.world, able, put_off)
        deeds.append(told_deed(do_step(machine.world, machine.world.folk[name])))
        able = machine.can()
    return deeds


def late_run(machine, many):
    if not isinstance(machine, Machine):
        raise BadMachine(machine)
    if not is_number(many):
        raise BadMany(many)
    return run_late(machine.copy(), many, [])
