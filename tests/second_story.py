"""A second teller of sure pasts, cuts and words for tests: [13.2], [13.5], [14.2] straight as they stand there, by sets and pairs of indexes."""

from everypipe.orders import dependent

TOUCHES = ("write", "cut", "make", "start", "signal")


def join(pasts, names):
    return {name: max([past[name] for past in pasts] + [0]) for name in names}


def meet(pasts, names):
    return {name: min(past[name] for past in pasts) for name in names}


class SecondStory:
    def __init__(self, net, row, waits=None):
        (self.rooms, self.holds), self.row, self.waits = net, row, waits or {}
        self.names = sorted(self.holds)
        self.number = [sum(deed[0] == row[at][0] for deed in row[:at + 1]) for at in range(len(row))]
        self.plain, self.by_stops = self.relations()
        self.stop_of = {(name, end): self.first_stop(name, end) for name in self.names for end in self.holds[name]}
        self.end_of = {name: self.first(lambda deed: deed[0] == name and deed[1] in ("over", "broken")) for name in self.names}
        self.tell()

    def first(self, test):
        return next((at for at, deed in enumerate(self.row) if test(deed)), None)

    def first_stop(self, name, end):
        return self.first(lambda deed: deed[0] == name and (
            deed[1] in ("over", "broken") or deed[1:3] == ("drop", end) or (deed[1] == "become" and end in deed[2])))

    def takers(self, pipe):
        return [name for name in self.names if (pipe, "take") in self.holds[name]]

    def places(self, word, pipe):
        return [at for at, deed in enumerate(self.row) if deed[1] == word and deed[2] == pipe]

    def relations(self):
        """For each deed the deeds directly ahead of it that stay, and the keys of the sure pasts that stand for stops."""
        row = self.row
        plain, by_stops = [set() for _ in row], [set() for _ in row]
        for later, (process, word, thing, _) in enumerate(row):
            for former in range(later):
                one = row[former]
                if one[0] == process or (one[1] == "start" and process in one[2]):
                    plain[later].add(former)
            if word in ("wait", "ask") or (word == "over" and thing is not None):
                by_stops[later].add(("end", thing))
            if word in ("heard", "broken") and thing is not None:
                end = (thing, "put" if word == "heard" else "take")
                by_stops[later] |= {("stop", name, end) for name in self.names if end in self.holds[name]}
        for pipe, room in self.rooms.items():
            puts, takes = self.places("put", pipe), self.places("take", pipe)
            for former, later in list(zip(puts, takes)) + list(zip(takes, puts[room:])):
                plain[later].add(former)
        self.answers = set()
        for name in self.names:
            for sign in ("int", "kill", "term"):
                answer = (name, "over", None, 137) if sign == "kill" else (name, "trap", sign, None)
                for at, deed in enumerate(row):
                    if deed[1:] == ("signal", name, sign):
                        later = next((k for k in range(at + 1, len(row)) if row[k] == answer and k not in self.answers), None)
                        if later is not None:
                            self.answers.add(later)
                            plain[later].add(at)
        return plain, by_stops

    def told_pasts(self, sure):
        pasts = []
        for at, deed in enumerate(self.row):
            ahead = [pasts[former] for former in self.plain[at]] + [sure[key] for key in self.by_stops[at] if sure.get(key) is not None]
            past = join(ahead, self.names)
            past[deed[0]] = max(past[deed[0]], self.number[at])
            pasts.append(past)
        return pasts

    def deed_of(self, key):
        return self.end_of[key[1]] if key[0] == "end" else self.stop_of[key[1:]]

    def shuts(self, pipe, sure):
        stops = [sure[("stop", name, (pipe, "take"))] for name in self.takers(pipe)]
        return None if None in stops else join(stops, self.names)

    def before(self, at, pasts):
        """The past of the deed of its process ahead of a deed, all 0 without one."""
        own = [past for past, deed in zip(pasts[:at], self.row[:at]) if deed[0] == self.row[at][0]]
        return own[-1] if own else {name: 0 for name in self.names}

    def tell(self):
        keys = [("end", name) for name in self.names] + [("stop", name, end) for name, end in self.stop_of]
        full = self.full_pasts()
        sure = {key: None if self.deed_of(key) is None else full[self.deed_of(key)] for key in keys}
        broken, pasts = set(), full
        while True:
            old = (sure, broken, pasts)
            pasts = self.told_pasts(sure)
            told = {}
            for key in keys:
                at = self.deed_of(key)
                if at is None:
                    told[key] = None
                    continue
                ways = [pasts[at]]
                for put in broken:
                    if put < at and self.row[put][0] == key[1]:
                        n = {name: self.number[put] if name == key[1] else 0 for name in self.names}
                        ways.append(join([self.before(put, pasts), n, self.shuts(self.row[put][2], sure)], self.names))
                told[key] = meet(ways, self.names)
            sure = told
            broken = {at for at, deed in enumerate(self.row) if deed[1] == "put" and deed[2] is not None and self.can_be_broken(at, sure)}
            if old == (sure, broken, pasts):
                break
        self.sure, self.broken, self.pasts = sure, broken, pasts
        self.cut = {}
        for at in sorted(broken):
            self.cut.setdefault(self.row[at][0], self.number[at])
        self.cut = {name: self.cut[name] for name in sorted(self.cut)}

    def full_pasts(self):
        pasts = []
        for at, deed in enumerate(self.row):
            stops = [self.deed_of(key) for key in self.by_stops[at]]
            past = join([pasts[former] for former in self.plain[at]] + [pasts[stop] for stop in stops if stop is not None], self.names)
            past[deed[0]] = max(past[deed[0]], self.number[at])
            pasts.append(past)
        return pasts

    def can_be_broken(self, at, sure):
        name, _, pipe, _ = self.row[at]
        shut = self.shuts(pipe, sure)
        return shut is not None and shut[name] < self.number[at]

    def is_loose(self, at):
        name = self.row[at][0]
        return name in self.cut and self.number[at] > self.cut[name]

    def is_in(self, at, past):
        return past[self.row[at][0]] >= self.number[at]

    def holds_then(self, name, end, at):
        """Whether a process holds an end ahead of a deed of its own."""
        if end not in self.holds[name]:
            return False
        if end[0][:-1] == name and self.first(lambda deed: deed[0] == name and deed[1] == "start" and end[0] in deed[3]) is None:
            return False
        stop = self.stop_of[(name, end)]
        return stop is None or stop >= at

    def status(self, name):
        end = self.end_of[name]
        return None if end is None else (141 if self.row[end][1] == "broken" else self.row[end][3])

    def is_status_loose(self, name):
        if name in self.cut and self.status(name) != 141:
            return True
        end = self.row[self.end_of[name]]
        return end[1] == "over" and end[2] is not None and self.is_status_loose(end[2])

    def kinds(self):
        """All words but of pairs, each kind's in a set, in their order."""
        row, none = self.row, {name: 0 for name in self.names}
        opened, heard, room, rival = set(), set(), set(), set()
        for at, (process, word, pipe, _) in enumerate(row):
            if word == "broken":
                k = len([put for put in self.places("put", pipe) if put < at])
                takes = [take for take in self.places("take", pipe) if take < at]
                number = k + 1 - self.rooms[pipe]
                if number > len(takes):
                    continue
                pasts = [self.before(at, self.pasts)] + ([self.pasts[takes[number - 1]]] if number > 0 else [])
                for p in self.takers(pipe):
                    stop = self.stop_of[(p, (pipe, "take"))]
                    if p != process and stop is not None and not any(self.is_in(stop, past) for past in pasts):
                        opened.add(("open", p))
        for p in self.cut:
            for pipe in self.rooms:
                first = min([at for at in self.broken if row[at][0] == p and row[at][2] == pipe], default=None)
                for q in self.rooms:
                    if first is None or q == pipe:
                        continue
                    puts, takes = self.places("put", q), self.places("take", q)
                    mine = [k for k, put in enumerate(puts) if put > first and row[put][0] == p]
                    seen = [takes[k] for k in mine if k < len(takes)]
                    seen += [at for at in self.places("heard", q) if mine and at > puts[mine[0]]]
                    if any(not self.holds_then(row[at][0], (pipe, "take"), at) for at in seen):
                        heard.add(("heard", p, q))
        for q in self.rooms:
            for put, take in zip(self.places("put", q)[self.rooms[q]:], self.places("take", q)):
                if self.is_loose(take) and set(self.takers(q)) - {row[take][0]}:
                    room.add(("room", row[put][0], q))
        for p, (word, thing) in self.waits.items():
            if word in ("put", "take"):
                last = max([at for at, deed in enumerate(row) if deed[0] == p], default=None)
                past = none if last is None else self.pasts[last]
                if any(row[at][0] != p and not self.is_in(at, past) for at in self.places(word, thing)):
                    rival.add(("rival", p))
        return [
            opened, {("waits", p) for p in self.cut if self.end_of[p] is None},
            {("touch", deed[0], self.number[at]) for at, deed in enumerate(row) if deed[1] in TOUCHES and self.is_loose(at)},
            {("asked", deed[2]) for deed in row if deed[1] == "ask" and self.is_status_loose(deed[2])}, heard, room,
            {("signal", row[at][0]) for at in self.answers}, rival,
        ]

    def is_ahead(self, former, later):
        if self.row[later][1] in ("put", "take", "broken", "heard"):
            own = [at for at in range(later) if at in self.plain[later] and (
                self.row[at][0] == self.row[later][0] or (self.row[at][1] == "start" and self.row[later][0] in self.row[at][2]))]
            return any(self.is_in(former, self.pasts[at]) for at in own)
        return self.is_in(former, self.pasts[later])

    def pairs(self):
        return [(former, later) for later in range(len(self.row)) for former in range(later)
                if dependent(self.row[former], self.row[later]) and not self.is_ahead(former, later)]

    def words(self):
        """All words that are so, but the one of none, in their order."""
        return [word for kind in self.kinds() for word in sorted(kind)] + [("pair", *pair) for pair in self.pairs()]
