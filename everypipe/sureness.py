"""What is sure of a row that fits: a process may end earlier, at a put into a pipe whose takers ended earlier."""

from everypipe.aheads import pasts_of
from everypipe.orders import links_of


def joined_past(pasts, names):
    """For each process the greatest number of some pasts, 0 without any."""
    return {name: max([past[name] for past in pasts], default=0) for name in names}


def met_past(pasts):
    """For each process the least number of some pasts, one at least."""
    return {name: min([past[name] for past in pasts]) for name in pasts[0]}


class Sureness:
    """The sure pasts of a row, by its links.

    numbers are the places of deeds among those of their processes, from 1; pasts those of deeds, by
    sure pasts of stops; stop_pasts the sure ones of the deeds by which a process lets go ends, or is
    over; breakable the puts that can be broken, by their indexes; cut has the cuts.
    """

    def __init__(self, links):
        self.links = links
        self.folk_names = list(links.net.may_hold)
        self.numbers = self.told_numbers()
        self.puts = self.told_puts()
        self.pasts = pasts_of(links)
        stops = [*list(links.let_go.values()), *list(links.over_at.values())]
        self.stop_pasts = {at: self.pasts[at] for at in sorted(stops)}
        self.breakable = {}
        while self.is_changed():
            self.pasts = self.told_pasts()
        self.cut = self.told_cuts()

    def told_numbers(self):
        many = {}
        numbers = []
        for deed in self.links.row_deeds:
            many[deed[0]] = many.get(deed[0], 0) + 1
            numbers.append(many[deed[0]])
        return numbers

    def told_puts(self):
        """The dict from processes to the indexes of their puts into pipes, broken ones left out."""
        puts = {name: [] for name in self.folk_names}
        for at, deed in enumerate(self.links.row_deeds):
            if deed[1] == "put" and deed[2] is not None:
                puts[deed[0]].append(at)
        return puts

    def told_pasts(self):
        links = self.links
        pasts = []
        for at, deed in enumerate(links.row_deeds):
            own = [] if links.own[at] is None else [pasts[links.own[at]]]
            stops = [self.stop_pasts[place] for _, place in links.stops[at]]
            past = joined_past([*own, *[pasts[place] for place in links.firm[at]], *stops], self.folk_names)
            past[deed[0]] = self.numbers[at]
            pasts.append(past)
        return pasts

    def shut_past(self, pipe):
        """The past of what shuts a pipe, None if nothing does."""
        end = (pipe, "take")
        takers = self.links.net.holders(pipe, "take")
        if not all([(name, end) in self.links.let_go for name in takers]):
            return None
        return joined_past([self.stop_pasts[self.links.let_go[(name, end)]] for name in takers], self.folk_names)

    def broken_past(self, at, shuts):
        """The past of a put that can be broken if it is."""
        own = self.own_past(at)
        deed = self.links.row_deeds[at]
        past = joined_past([own, shuts[deed[2]]], self.folk_names)
        past[deed[0]] = max(past[deed[0]], self.numbers[at])
        return past

    def own_past(self, at):
        """The past of the deed of its own process ahead of a deed."""
        own = self.links.own[at]
        if own is None or self.numbers[at] == 1:
            return {name: 0 for name in self.folk_names}
        return self.pasts[own]

    def is_changed(self):
        """Tell the sure pasts of stops, and which puts can be broken, anew; whether something is otherwise."""
        shuts = {pipe: self.shut_past(pipe) for pipe in self.links.net.rooms}
        stop_pasts = {}
        for at in self.stop_pasts:
            puts = [put for put in self.puts[self.links.row_deeds[at][0]] if put < at and put in self.breakable]
            stop_pasts[at] = met_past([self.pasts[at], *[self.broken_past(put, shuts) for put in puts]])
        breakable = {}
        for name, puts in self.puts.items():
            for put in puts:
                shut = shuts[self.links.row_deeds[put][2]]
                if shut is not None and shut[name] < self.numbers[put]:
                    breakable[put] = True
        is_new = stop_pasts != self.stop_pasts or breakable != self.breakable
        self.stop_pasts = stop_pasts
        self.breakable = breakable
        return is_new

    def told_cuts(self):
        cut = {}
        for name, puts in self.puts.items():
            numbers = [self.numbers[put] for put in puts if put in self.breakable]
            if len(numbers) > 0:
                cut[name] = numbers[0]
        return cut

    def is_loose(self, at):
        name = self.links.row_deeds[at][0]
        return name in self.cut and self.numbers[at] > self.cut[name]

    def is_in(self, at, past):
        """Whether a deed is in a past."""
        return past.get(self.links.row_deeds[at][0], 0) >= self.numbers[at]


def cuts(net, row):
    return Sureness(links_of(net, row)).cut
