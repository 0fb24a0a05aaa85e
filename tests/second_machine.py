"""A second machine for tests: each step tries all that it does on a copy of everything, straight as [9.3] says it."""

import copy


class Waits(Exception):
    def __init__(self, thing):
        self.thing = thing


class NoWish(Exception):
    pass


class SecondMachine:
    def __init__(self, tree, holders, rooms, signals=()):
        self.tree, self.rooms, self.signals = copy.deepcopy(tree), rooms, [(tuple(name), many, sign) for name, many, sign in signals]
        self.pipes, self.handles, self.row, self.processes = {}, {}, [], {}
        for at, (actor, table) in enumerate(holders):
            leads = {}
            for n in sorted(table):
                lead = table[n]
                if lead[0] == "pipe":
                    self.pipes.setdefault(lead[1], [])
                    leads[n] = ("pipe", lead[1], lead[2])
                else:
                    leads[n] = self.handle((-1, len(self.handles)), lead)
            self.begin((at,), actor, leads)

    def begin(self, name, actor, table):
        self.processes[name] = {"actor": actor, "table": table, "answers": [], "status": None, "pending": [], "children": 0, "pipes": 0, "handles": 0,
                                "deeds": 0}
        self.due(name)

    def due(self, name):
        process = self.processes[name]
        process["pending"] += [sign for other, many, sign in self.signals if (other, many) == (name, process["deeds"])]

    def at(self, path):
        here = self.tree
        for name in path.split("/") if path else []:
            here = here.get(name) if isinstance(here, dict) else None
        return here

    def handle(self, name, lead):
        if lead[0] == "lines":
            self.handles[name] = [None, list(lead[1]), 0]
            return ("lines", name)
        where, _, last = lead[1].rpartition("/")
        if lead[2] == "cut" or self.at(lead[1]) is None:
            self.at(where)[last] = []
        self.handles[name] = [lead[1], None, 0]
        return ("file", lead[1], lead[2], name)

    def copied(self):
        other = copy.copy(self)
        other.tree, other.pipes, other.handles, other.row = map(copy.deepcopy, (self.tree, self.pipes, self.handles, self.row))
        other.processes = {name: {key: copy.copy(value) for key, value in process.items()} for name, process in self.processes.items()}
        return other

    def holds(self, name, pipe, side):
        return self.processes[name]["status"] is None and ("pipe", pipe, side) in self.processes[name]["table"].values()

    def closed(self, pipe, side):
        return not any(self.holds(name, pipe, side) for name in self.processes)

    def next(self, name):
        """The machine behind the next step of a process, which tells its deed last in its row; Waits if there is none."""
        other = self.copied()
        other.step(name)
        return other

    def deed(self, name, word, thing, what):
        self.row.append((name, word, thing, what))
        self.processes[name]["deeds"] += 1
        self.due(name)

    def over(self, name, word, thing, what, status):
        self.processes[name]["status"] = status
        self.processes[name]["table"] = {}
        self.deed(name, word, thing, what)

    def step(self, name):
        process = self.processes[name]
        if process["pending"]:
            sign = process["pending"].pop(0)
            if sign == "kill":
                return self.over(name, "over", None, 137, 137)
            process["answers"].append(("sign", sign))
            return self.deed(name, "trap", sign, None)
        silent = 0
        while True:
            wish = process["actor"](list(process["answers"]))
            many = len(self.row)
            try:
                answer = getattr(self, "do_" + wish[0])(name, process, *wish[1:])
            except NoWish:
                return self.over(name, "over", None, 120, 120)
            if len(self.row) > many:
                if answer != "again" and process["status"] is None and answer != "anew":
                    process["answers"].append(answer[0])
                return None
            process["answers"].append(answer[0])
            silent += 1
            if silent == 1000:
                return self.over(name, "over", None, 125, 125)

    def close(self, name, n):
        """Whether the closing of a descriptor is a deed."""
        lead = self.processes[name]["table"].pop(n, None)
        if lead is not None and lead[0] == "pipe" and not self.holds(name, *lead[1:]):
            self.deed(name, "drop", lead[1:], None)
            return True
        return False

    def do_close(self, name, process, n):
        self.close(name, n)
        return [None]

    def do_take(self, name, process, n):
        lead = process["table"].get(n)
        if lead is not None and lead[0] == "pipe" and lead[2] == "take":
            lines = self.pipes[lead[1]]
            if lines:
                line = lines.pop(0)
                self.deed(name, "take", lead[1], line)
                return [line]
            if not self.closed(lead[1], "put"):
                raise Waits(("take", lead[1]))
            self.deed(name, "heard", lead[1], None)
        elif lead is not None and (lead[0] == "lines" or (lead[0] == "file" and lead[2] == "read")):
            path, lines, place = self.handles[lead[-1]]
            lines = lines if path is None else self.at(path)
            if place < len(lines):
                self.handles[lead[-1]][2] += 1
                self.deed(name, "read", (path, lead[-1]), lines[place])
                return [lines[place]]
            self.deed(name, "done", (path, lead[-1]), None)
        else:
            self.deed(name, "heard", None, None)
        return [None]

    def do_put(self, name, process, n, line):
        lead = process["table"].get(n)
        if lead is not None and lead[0] == "pipe" and lead[2] == "put":
            if self.closed(lead[1], "take"):
                self.over(name, "broken", lead[1], line, 141)
            elif len(self.pipes[lead[1]]) >= self.rooms.get(lead[1], self.rooms[()]):
                raise Waits(("put", lead[1]))
            else:
                self.pipes[lead[1]].append(line)
                self.deed(name, "put", lead[1], line)
        elif lead is not None and lead[0] == "file" and lead[2] != "read":
            self.at(lead[1]).append(line)
            self.deed(name, "write", lead[1], line)
        else:
            self.deed(name, "put", None, line)
        return [None]

    def do_open(self, name, process, n, what, way):
        if self.close(name, n):
            return "again"
        handle = (*name, process["handles"])
        if way == "lines":
            process["table"][n] = self.handle(handle, ("lines", what))
            process["handles"] += 1
            return [""]
        there, where = self.at(what), self.at(what.rpartition("/")[0])
        kind = {dict: "directory", list: "file"}.get(type(there))
        word = "directory" if kind == "directory" else "lacks" if kind is None and (way == "read" or not isinstance(where, dict)) else ""
        if word == "":
            process["table"][n] = self.handle(handle, ("file", what, way))
            process["handles"] += 1
        if word == "" and kind is None:
            self.deed(name, "make", what.rpartition("/")[0], what.rpartition("/")[2])
        elif word == "" and way == "cut":
            self.deed(name, "cut", what, None)
        else:
            self.deed(name, "find", what, kind)
        return [word]

    def do_look(self, name, process, path):
        kind = {dict: "directory", list: "file"}.get(type(self.at(path)))
        self.deed(name, "find", path, kind)
        return [kind]

    def do_list(self, name, process, path):
        there = self.at(path)
        names = sorted(there) if isinstance(there, dict) else None
        self.deed(name, "list", path, names)
        return [names]

    def do_start(self, name, process, rows, own):
        for n in sorted(own):
            if self.close(name, n):
                return "again"
        leads = [lead for table in [own] + [table for _, table in rows] for lead in table.values() if lead[0] == "new"]
        pipes = [(*name, process["pipes"] + at) for at in range(max([lead[1] + 1 for lead in leads], default=0))]
        children = [(*name, process["children"] + at) for at in range(len(rows))]
        process["pipes"] += len(pipes)
        process["children"] += len(children)
        for pipe in pipes:
            self.pipes[pipe] = []
        for child, (actor, table) in zip(children, rows):
            found = {n: ("pipe", pipes[lead[1]], lead[2]) if lead[0] == "new" else process["table"].get(lead[1]) for n, lead in table.items()}
            self.begin(child, actor, {n: lead for n, lead in found.items() if lead is not None})
        process["table"].update({n: ("pipe", pipes[lead[1]], lead[2]) for n, lead in own.items()})
        self.deed(name, "start", tuple(children), tuple(pipes))
        return [None]

    def child(self, name, process, k):
        if k >= process["children"]:
            raise NoWish
        return (*name, k)

    def ended(self, child):
        if self.processes[child]["status"] is None:
            raise Waits(("wait", child))
        return self.processes[child]["status"]

    def do_wait(self, name, process, k):
        child = self.child(name, process, k)
        self.ended(child)
        self.deed(name, "wait", child, None)
        return [None]

    def do_ask(self, name, process, k):
        child = self.child(name, process, k)
        status = self.ended(child)
        self.deed(name, "ask", child, status)
        return [status]

    def do_signal(self, name, process, k, sign):
        child = self.child(name, process, k)
        if self.processes[child]["status"] is None:
            self.processes[child]["pending"].append(sign)
        self.deed(name, "signal", child, sign)
        return [None]

    def do_become(self, name, process, actor, table):
        before = {lead[1:] for lead in process["table"].values() if lead[0] == "pipe"}
        process["table"] = {n: process["table"][lead[1]] for n, lead in table.items() if lead[1] in process["table"]}
        after = {lead[1:] for lead in process["table"].values() if lead[0] == "pipe"}
        process["actor"], process["answers"] = actor, []
        self.deed(name, "become", tuple(sorted(before - after)), None)
        return "anew"

    def do_over(self, name, process, status):
        if isinstance(status, int):
            self.over(name, "over", None, status, status)
        else:
            child = self.child(name, process, status[1])
            self.over(name, "over", child, self.ended(child), self.ended(child))
