"""What of a row that fits is directly ahead of what, and the pasts that come of it."""

from everypipe.nets import Fitting


class Links:
    """The indexes of the deeds that are directly ahead of each deed of a row that fits.

    own has for each deed the one before of its process, else its process's start, else None. firm are
    lists of all others that do not hang on ends of processes, stops those of ends: a pair of a process
    and the deed by which it stopped to hold an end, or was over.
    """

    def __init__(self, net, deeds):
        self.net = net
        self.fitting = Fitting(net, deeds)
        self.row_deeds = deeds
        self.own = []
        self.firm = []
        self.stops = []
        self.last = {}
        self.puts = {}
        self.takes = {}
        self.over_at = {}
        self.let_go = {}
        self.signals = {}
        for at, deed in enumerate(deeds):
            self.put(at, deed)

    def put(self, at, deed):
        process, word, thing, _ = deed
        self.own.append(self.last.get(process, None))
        self.firm.append(self.firm_ahead(at, deed))
        self.stops.append(self.stops_ahead(deed))
        for end in self.fitting.gone(deed):
            self.let_go[(process, end)] = at
        if word in ("over", "broken"):
            self.over_at[process] = at
        elif word == "start":
            for child in thing:
                self.last[child] = at
        elif word == "signal":
            self.signals.setdefault((thing, deed[3]), []).append(at)
        self.last[process] = at
        self.fitting.do(deed)

    def firm_ahead(self, at, deed):
        process, word, thing, what = deed
        if word == "trap":
            return self.signal_ahead(process, thing)
        if word == "over" and thing is None and what == 137:
            return self.signal_ahead(process, "kill")
        if thing is None or word not in ("take", "put"):
            return []
        puts, takes = self.puts.setdefault(thing, []), self.takes.setdefault(thing, [])
        if word == "take":
            takes.append(at)
            return [puts[len(takes) - 1]]
        puts.append(at)
        place = len(puts) - 1 - self.net.rooms[thing]
        return [takes[place]] if place >= 0 else []

    def signal_ahead(self, process, sign):
        """The first signal that is not yet answered, which this deed answers."""
        waiting = self.signals.get((process, sign), [])
        return [waiting.pop(0)] if len(waiting) > 0 else []

    def stops_ahead(self, deed):
        word, thing = deed[1], deed[2]
        if thing is None:
            return []
        if word in ("wait", "ask", "over"):
            return [(thing, self.over_at[thing])]
        if word not in ("heard", "broken"):
            return []
        end = (thing, "put" if word == "heard" else "take")
        holders = self.net.holders(end[0], end[1])
        return [(name, self.let_go[(name, end)]) for name in holders if (name, end) in self.let_go]

    def all_ahead(self, at):
        """All deeds directly ahead of a deed, of its own process the last one alone."""
        own = [] if self.own[at] is None else [self.own[at]]
        return [*own, *self.firm[at], *[place for _, place in self.stops[at]]]


def pasts_of(links):
    """The list that has for each deed the dict from all processes to how many deeds of each are ahead of it."""
    pasts = []
    for at, deed in enumerate(links.row_deeds):
        past = {name: 0 for name in links.net.may_hold}
        for place in links.all_ahead(at):
            for name, many in pasts[place].items():
                if many > past[name]:
                    past[name] = many
        past[deed[0]] = past[deed[0]] + 1
        pasts.append(past)
    return pasts
