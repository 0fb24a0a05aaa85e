"""The deeds of a machine: each step does what a process wishes, or what it waits for is told."""

from everypipe.filetrees import kind_of, opening_word, parted_path, put_file, thing_at
from everypipe.folk import Process, is_last_lead, sides_of, without
from everypipe.signs import sign_status
from everypipe.wishes import child_asked
from everypipe.worlds import Handle

BROKEN = 141


def pipe_led_to(leads, n, side):
    """The pipe of which a descriptor is this side, None if it is of none."""
    lead = leads.get(n, None)
    return lead[1] if lead is not None and lead[0] == "pipe" and lead[2] == side else None


def waiting_for(world, process):
    """What a process that is not over waits for, None if it can go on."""
    if len(process.pending) > 0:
        return None
    ahead = process.looked_ahead()
    wish = ahead.wish
    if wish[0] in ("take", "put"):
        pipe = pipe_led_to(ahead.leads, wish[1], wish[0])
        if pipe is None:
            return None
        many = len(world.pipes[pipe])
        is_barred = many == 0 if wish[0] == "take" else many >= world.room(pipe)
        other = "put" if wish[0] == "take" else "take"
        return (wish[0], pipe) if is_barred and not world.is_closed(pipe, other) else None
    k = child_asked(wish)
    if k is None or wish[0] == "signal" or k >= process.children:
        return None
    child = (*process.name, k)
    return ("wait", child) if world.folk[child].outcome is None else None


def do_step(world, process):
    """Do the next deed of a process that can, and tell it."""
    if len(process.pending) > 0:
        sign = process.pending.pop(0)
        if sign == "kill":
            return do_over(world, process, None, sign_status("kill"))
        process.hear(sign)
        return world.told(process, "trap", sign, None)
    ahead = process.looked_ahead()
    process.leads = ahead.leads
    process.answers.extend(ahead.silent)
    process.handles_made = process.handles_made + len(ahead.handles)
    for name, lines in ahead.handles:
        world.handles[name] = Handle(None, lines)
    ahead.silent = []
    return do_wish(world, process, ahead.wish)


def do_wish(world, process, wish):
    word = wish[0]
    k = child_asked(wish)
    if k is not None and k >= process.children:
        return do_over(world, process, None, 120)
    if word == "over":
        child = None if k is None else (*process.name, k)
        return do_over(world, process, child, wish[1] if k is None else world.folk[child].outcome)
    if word == "put":
        return do_put(world, process, wish)
    if word == "start":
        return do_start(world, process, wish)
    if word == "become":
        leads = {n: process.leads[lead[1]] for n, lead in wish[2].items() if lead[1] in process.leads}
        gone = world.changed_leads(process, leads)
        process.become(wish[1], leads)
        return world.told(process, "become", gone, None)
    if word == "close" or (word == "open" and is_last_lead(process.leads, wish[1])):
        return do_close(world, process, wish[1], word == "close")
    if word == "take":
        done, answer = taken(world, process, wish[1])
    elif word == "open":
        done, answer = opened_file(world, process, wish)
    else:
        done, answer = found_out(world, process, wish)
    process.answer(answer)
    return world.told(process, done[0], done[1], done[2])


def do_over(world, process, child, status):
    world.changed_leads(process, {})
    process.outcome = status
    process.doer = None
    process.ahead = None
    return world.told(process, "over", child, status)


def do_close(world, process, n, is_wish):
    """Close a descriptor, the last one of its side, by a wish of its own or ahead of what it is wished for."""
    gone = world.changed_leads(process, without(process.leads, n))
    if is_wish:
        process.answer(None)
    process.ahead = None
    return world.told(process, "drop", gone[0], None)


def taken(world, process, n):
    """The pair of what a take is, as a deed without its process, and of its answer."""
    lead = process.leads.get(n, None)
    pipe = pipe_led_to(process.leads, n, "take")
    if pipe is not None:
        lines = world.pipes[pipe]
        if len(lines) == 0:
            return (("heard", pipe, None), None)
        line = lines.pop(0)
        return (("take", pipe, line), line)
    if lead is None or lead[0] == "pipe" or (lead[0] == "file" and lead[2] != "read"):
        return (("heard", None, None), None)
    handle = world.handles[lead[-1]]
    lines = handle.lines if handle.path is None else thing_at(world.tree, handle.path)
    if handle.place >= len(lines):
        return (("done", (handle.path, lead[-1]), None), None)
    handle.place = handle.place + 1
    line = lines[handle.place - 1]
    return (("read", (handle.path, lead[-1]), line), line)


def do_put(world, process, wish):
    n, line = wish[1], wish[2]
    lead = process.leads.get(n, None)
    pipe = pipe_led_to(process.leads, n, "put")
    if pipe is not None and world.is_closed(pipe, "take"):
        world.changed_leads(process, {})
        process.outcome = BROKEN
        return world.told(process, "broken", pipe, line)
    process.answer(None)
    if pipe is not None:
        world.pipes[pipe].append(line)
        return world.told(process, "put", pipe, line)
    if lead is not None and lead[0] == "file" and lead[2] != "read":
        thing_at(world.tree, lead[1]).append(line)
        return world.told(process, "write", lead[1], line)
    return world.told(process, "put", None, line)


def opened_file(world, process, wish):
    """As taken, of an open of a file; its descriptor is no last one of a side."""
    n, path, way = wish[1], wish[2], wish[3]
    process.leads = without(process.leads, n)
    word = opening_word(world.tree, path, way)
    kind = kind_of(thing_at(world.tree, path))
    if word == "":
        name = (*process.name, process.handles_made)
        process.handles_made = process.handles_made + 1
        world.handles[name] = Handle(path, None)
        process.leads[n] = ("file", path, way, name)
        if way == "cut" or kind is None:
            put_file(world.tree, path, [])
    if word == "" and kind is None:
        where, name = parted_path(path)
        return (("make", where, name), word)
    return (("cut", path, None) if word == "" and way == "cut" else ("find", path, kind), word)


def found_out(world, process, wish):
    """As taken, of what changes no file, no pipe, no table."""
    word = wish[0]
    if word in ("look", "list"):
        thing = thing_at(world.tree, wish[1])
        if word == "look":
            return (("find", wish[1], kind_of(thing)), kind_of(thing))
        names = sorted(thing) if isinstance(thing, dict) else None
        return (("list", wish[1], names), names)
    child = (*process.name, wish[1])
    twin = world.folk[child]
    if word == "signal":
        if twin.outcome is None:
            twin.pending.append(wish[2])
        return (("signal", child, wish[2]), None)
    return ((word, child, twin.outcome), twin.outcome) if word == "ask" else ((word, child, None), None)


def new_pipes(process, wish):
    """The names of the pipes that are new with a wish to start."""
    leads = [*list(wish[2].values()), *[lead for _, table in wish[1] for lead in table.values()]]
    many = max([lead[1] + 1 for lead in leads if lead[0] == "new"], default=0)
    return tuple([(*process.name, process.pipes_made + at) for at in range(many)])


def led(leads, table, pipes):
    """The table that a wish to start tells, by the starter's own one and the new pipes."""
    told = {}
    for n, lead in table.items():
        if lead[0] == "new":
            told[n] = ("pipe", pipes[lead[1]], lead[2])
        elif lead[1] in leads:
            told[n] = leads[lead[1]]
    return told


def do_start(world, process, wish):
    own = wish[2]
    for n in own:
        if is_last_lead(process.leads, n):
            return do_close(world, process, n, False)
        process.leads = without(process.leads, n)
    pipes = new_pipes(process, wish)
    children = tuple([(*process.name, process.children + at) for at in range(len(wish[1]))])
    for pipe in pipes:
        world.pipes[pipe] = []
    for name, (actor, table) in zip(children, wish[1]):
        world.begin(Process(name, actor, led(process.leads, table, pipes)))
    before = process.leads
    more = led({}, own, pipes)
    world.changed_leads(process, {**before, **more})
    process.held = sorted([*process.held, *sides_of(more)])
    process.children = process.children + len(children)
    process.pipes_made = process.pipes_made + len(pipes)
    process.answer(None)
    return world.told(process, "start", children, pipes)
