"""Which deeds bar: by them the take side of a pipe gets closed whose put side is not, or a put is broken."""

from everypipe.doings import pipe_led_to
from everypipe.folk import is_last_lead, sides_of, without
from everypipe.wishes import child_asked


def is_next_broken(world, process):
    """Whether the next deed of a process that can go on is a put that is broken."""
    if len(process.pending) > 0:
        return False
    ahead = process.looked_ahead()
    if ahead.wish[0] != "put":
        return False
    pipe = pipe_led_to(ahead.leads, ahead.wish[1], "put")
    return pipe is not None and world.is_closed(pipe, "take")


def closed_to_start(leads, own):
    """The end that is closed ahead of a start, in a list; none if the start comes at once."""
    for n in own:
        if is_last_lead(leads, n):
            return [(leads[n][1], leads[n][2])]
        leads = without(leads, n)
    return []


def kept_by_become(leads, wish):
    return sides_of({n: leads[lead[1]] for n, lead in wish[2].items() if lead[1] in leads})


def next_gone(world, process):
    """The ends that a process that can go on lets go with its next deed."""
    if len(process.pending) > 0:
        return sides_of(process.leads) if process.pending[0] == "kill" else []
    ahead = process.looked_ahead()
    wish, leads = ahead.wish, ahead.leads
    k = child_asked(wish)
    if wish[0] == "over" or (k is not None and k >= process.children) or is_next_broken(world, process):
        return sides_of(leads)
    if wish[0] == "become":
        kept = kept_by_become(leads, wish)
        return [end for end in sides_of(leads) if end not in kept]
    if wish[0] in ("close", "open") and is_last_lead(leads, wish[1]):
        return [(leads[wish[1]][1], leads[wish[1]][2])]
    return closed_to_start(leads, wish[2]) if wish[0] == "start" else []


def many_barred_by_start(process):
    """Of how many pipes that are new with its next wish, a start, somebody gets the put side alone."""
    wish = process.looked_ahead().wish
    leads = [*list(wish[2].values()), *[lead for _, table in wish[1] for lead in table.values()]]
    takes = [lead[1] for lead in leads if lead[0] == "new" and lead[2] == "take"]
    puts = {lead[1]: True for lead in leads if lead[0] == "new" and lead[2] == "put"}
    return len([pipe for pipe in puts if pipe not in takes])


def many_barred(world, process):
    """Of how many pipes by the next deed of a process that can go on the take side gets closed, the put side not."""
    gone = next_gone(world, process)
    if len(process.pending) == 0 and len(gone) == 0 and process.looked_ahead().wish[0] == "start":
        return many_barred_by_start(process)
    many = 0
    for pipe, side in gone:
        if side == "take" and world.sides[(pipe, "take")] == 1:
            puts = world.sides.get((pipe, "put"), 0)
            if puts > (1 if (pipe, "put") in gone else 0):
                many += 1
    return many


def is_barred(fitting, process, gone, pipe):
    """Whether by a process that lets some ends go nobody holds the take side of a pipe, but somebody the put side."""
    others = [ends for name, ends in fitting.held.items() if name != process]
    if any([(pipe, "take") in ends for ends in others]):
        return False
    kept = [end for end in fitting.held[process] if end not in gone]
    return (pipe, "put") in kept or any([(pipe, "put") in ends for ends in others])


def bars_by_start(fitting, deed):
    """Whether of a pipe that is new with a start somebody gets the put side and nobody the take side."""
    process, _, children, pipes = deed
    net = fitting.net
    ends = [*net.may_hold[process], *[end for child in children for end in net.handed(child)]]
    return any([(pipe, "put") in ends and (pipe, "take") not in ends for pipe in pipes])


def bars(fitting, deed):
    """Whether a deed that can be done where a row stands bars there."""
    if deed[1] in ("broken", "start"):
        return deed[1] == "broken" or bars_by_start(fitting, deed)
    gone = fitting.gone(deed)
    return any([is_barred(fitting, deed[0], gone, pipe) for pipe, side in gone if side == "take"])
