"""Made-up machines with pipes between few processes, all whole machines that they come to, and scripts that race or not."""

from everypipe.machines import Machine
from everypipe.scriptmachines import script_machine
from everypipe.shellreading import read_script
from helper import Maker


def heard(answers):
    """The answers without signs."""
    return [answer for answer in answers if not isinstance(answer, tuple)]


def telling(wishes, last=("over", 0)):
    """An actor that tells these wishes, then the last one; signs it does not heed."""
    def actor(answers):
        many = len(heard(answers))
        return wishes[many] if many < len(wishes) else last
    return actor


def echoing(n, m, many):
    """An actor that takes a line and puts it, so many times."""
    def actor(answers):
        told = heard(answers)
        if len(told) >= 2 * many:
            return ("over", 3)
        if len(told) % 2 == 0:
            return ("take", n)
        return ("over", 0) if told[-1] is None else ("put", m, told[-1])
    return actor


class MachineMaker(Maker):
    def acts(self, takes, puts, files):
        told = []
        for _ in range(self.random.randint(0, 6)):
            wishes = [("take", self.pick(takes))] * 3 if takes else []
            wishes += [("put", self.pick(puts), self.pick("uv"))] * 3 if puts else []
            wishes += [("put", self.pick(files), "w")] if files else []
            wishes += [("close", self.pick(takes))] * 2 if takes and self.chance(15) else []
            wishes += [("close", self.pick(puts))] * 2 if puts and self.chance(15) else []
            if wishes:
                told.append(self.pick(wishes))
        return told

    def actor(self, table):
        takes = [n for n, lead in table.items() if lead[-1] in ("take", "read")]
        puts = [n for n, lead in table.items() if lead[-1] == "put"]
        files = [n for n, lead in table.items() if lead[-1] == "add"]
        if takes and puts and self.chance(35):
            return echoing(self.pick(takes), self.pick(puts + files), self.random.randint(1, 4))
        if puts and self.chance(25):
            return telling([], ("put", self.pick(puts), "e"))
        return telling(self.acts(takes, puts, files), ("over", self.pick([0, 0, 5])))

    def made_of(self, tables):
        rooms = {(): self.pick([1, 1, 2])}
        rooms.update({(p,): self.pick([1, 2, 3]) for p in range(3) if self.chance(25)})
        signals = [((self.random.randrange(len(tables)),), self.random.randrange(4), self.pick(["int", "kill"]))] if self.chance(15) else []
        return ({"f": ["x"], "g": []}, [(self.actor(table), table) for table in tables], rooms, signals)

    def with_file(self, table):
        if self.chance(45):
            table[20] = ("file", self.pick("ffg"), self.pick(["add", "add", "read"]))
        return table

    def net(self):
        """What a machine is made of whose pipes lead anywhere."""
        many = self.random.randint(2, 4)
        tables = [{} for _ in range(many)]
        for p in range(self.random.randint(1, 3)):
            one = self.random.randrange(many)
            other = self.random.randrange(many) if self.chance(60) else (one + 1) % many
            tables[one][1 + 2 * p] = ("pipe", (p,), "put")
            tables[other][2 + 2 * p] = ("pipe", (p,), "take")
            if self.chance(15):
                self.pick(tables)[11 + 2 * p] = ("pipe", (p,), self.pick(["put", "take"]))
        return self.made_of([self.with_file(table) for table in tables])

    def straight(self):
        """What a straight machine is made of."""
        many = self.random.randint(1, 4)
        tables = [{} for _ in range(many)]
        for p in range(many - 1):
            tables[p][1] = ("pipe", (p,), "put")
            tables[p + 1][0] = ("pipe", (p,), "take")
        return self.made_of([self.with_file(table) for table in tables])

    def with_parent(self, made):
        """The same, but that one process starts all others, and asks some."""
        tree, holders, rooms, _ = made
        pipes = sorted({lead[1] for _, table in holders for lead in table.values() if lead[0] == "pipe"})
        rows, leads = [], {30: ("file", "f", "add")}
        for actor, table in holders:
            told = {}
            for n, lead in table.items():
                if lead[0] == "pipe":
                    told[n] = ("new", pipes.index(lead[1]), lead[2])
                else:
                    leads[20 + len(rows)] = lead
                    told[n] = ("own", 20 + len(rows))
            rows.append((actor, told))
        k = lambda: self.random.randrange(len(rows))
        wishes = [("start", rows, {})] + self.some(lambda: (self.pick(["ask", "wait"]), k()), 0, 3) + self.some(lambda: ("put", 30, "z"), 0, 1)
        return (tree, [(telling(wishes, self.pick([("over", 0), ("over", ("child", k()))])), leads)], rooms, [])

    def any(self):
        made = self.pick([self.net, self.straight])()
        return self.with_parent(made) if self.chance(25) else made

    def machine(self):
        return Machine(*self.any())

    def schedule(self, most=40):
        return [self.random.randrange(5) for _ in range(self.random.randrange(most))]

    def script_piece(self):
        return self.pick(["cat", "grep a", "sort", "uniq", "head 1", "head 2", "head 0", "tail 1", "wc", "cut 1", "{ read x; say $x; }", "{ read x; say $x > g; }",
                          "{ cat; say z >> f; }", "( head 1; say k >> f )", "{ say q; cat; exit 3; }", "{ cat; say b; say c >> g; }"])

    def script_row(self):
        source = self.pick(["seq 1 5", "yes a", "say 'b\na'", "cat < f", "{ say a; say b; say c > h; }", "{ yes a; say $? > h; }", "cat"])
        return " | ".join([source] + self.some(self.script_piece, 0, 3)) + self.pick(["", "", " > f", " >> f", " > g"])

    def script_part(self):
        row = self.script_row()
        return self.pick([row, row, row, row + " &", "say a >> f &", "{ say b > f; } &", "read x < f; say $x", "wait", "say $?", "cat < f", "x=$(" + row + ")",
                          "strict on", "is file f && say y", "wait 1; say $?", "say *", "( " + row + "; say $? ) &"])

    def script_text(self):
        return "\n".join(self.some(self.script_part, 1, 3)) + self.pick(["", "\nwait"])

    def script_machine(self):
        return script_machine(read_script(self.script_text()), {"f": ["x"]}, [], self.pick([[], ["l"], ["l", "m", "n"]]), {(): self.pick([1, 1, 2, 3])})


def own_parts(row):
    """The dict from processes to their own deeds."""
    found = {}
    for deed in row:
        found.setdefault(deed[0], []).append(deed)
    return found


def frozen(thing):
    if isinstance(thing, (list, tuple)):
        return tuple(frozen(inside) for inside in thing)
    if isinstance(thing, dict):
        return tuple(sorted((key, frozen(inside)) for key, inside in thing.items()))
    return thing


def state(machine):
    names = machine.processes()
    return frozen((own_parts(machine.deeds()), machine.files(), [machine.content(pipe) for pipe in machine.shape()[0]],
                   [machine.world.folk[name].pending for name in names]))


def all_ends(machine, most):
    """All whole machines that schedules lead to, those alike but for their orders once; None if more than most machines are met."""
    met, waiting, ends = {state(machine)}, [machine], []
    while waiting:
        here = waiting.pop()
        if not here.can():
            ends.append(here)
        for name in here.can():
            other = here.copy()
            other.step(name)
            key = state(other)
            if key not in met:
                met.add(key)
                waiting.append(other)
        if len(met) > most:
            return None
    return ends


def is_straight_net(net, row):
    """Whether a row is straight as [14.6] says it."""
    rooms, holds = net
    for side in ("put", "take"):
        if any(sum(end[1] == side for end in ends) > 1 for ends in holds.values()):
            return False
    who = {}
    for name, ends in holds.items():
        for end in ends:
            if end in who:
                return False
            who[end] = name
    if any(deed[1] == "signal" or (deed[1] == "start" and deed[2] and holds[deed[0]]) for deed in row):
        return False
    both = [(who[(pipe, "put")], who[(pipe, "take")]) for pipe in rooms if (pipe, "put") in who and (pipe, "take") in who]
    return all(taker > putter for putter, taker in both)


def raised(error, function, *passed):
    """What a call raises, which is of just this class."""
    try:
        function(*passed)
    except error as caught:
        assert type(caught) is error
        return caught
    raise AssertionError("nothing was raised")
