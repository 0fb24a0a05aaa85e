"""Rows that fit, with what their processes wait for behind them, and what is sure of both."""

from everypipe.nets import Fitting
from everypipe.orders import are_dependent, past_to_order
from everypipe.sureness import Sureness


class Story:
    """A row by its links, with its sure pasts.

    put_at, took_at have for each pipe the indexes of its puts and takes; held_at for each deed the ends
    that its process holds ahead of it; outcomes are the statuses of those that are over.
    """

    def __init__(self, links, waits):
        self.links = links
        self.row_deeds = links.row_deeds
        self.waits = waits
        self.sureness = Sureness(links)
        self.put_at = {pipe: [] for pipe in links.net.rooms}
        self.took_at = {pipe: [] for pipe in links.net.rooms}
        self.held_at = []
        fitting = Fitting(links.net, links.row_deeds)
        for at, deed in enumerate(links.row_deeds):
            self.held_at.append(fitting.held[deed[0]])
            if deed[2] is not None and deed[1] == "put":
                self.put_at[deed[2]].append(at)
            elif deed[1] == "take":
                self.took_at[deed[2]].append(at)
            fitting.do(deed)
        self.outcomes = fitting.outcomes

    def holders(self, pipe):
        """The processes that the net lets hold the take side of a pipe."""
        return self.links.net.holders(pipe, "take")

    def room(self, pipe):
        return self.links.net.rooms[pipe]

    def number(self, at):
        """The place of a deed among those of its process, from 1."""
        return self.sureness.numbers[at]

    def is_loose(self, at):
        return self.sureness.is_loose(at)

    def is_cut(self, name):
        return name in self.sureness.cut

    def sure_past(self, at):
        """The sure past of a deed, an empty one without a deed."""
        return {} if at is None else self.sureness.pasts[at]

    def is_in_one(self, at, pasts):
        """Whether a deed is in one of some pasts."""
        return any([self.sureness.is_in(at, past) for past in pasts])

    def own_ahead(self, at):
        """The deed of its own process ahead of a deed, None if there is none."""
        return None if self.number(at) == 1 else self.links.own[at]

    def first_broken(self):
        """The dict from pairs of a process and a pipe to the first put into it that can be broken."""
        first = {}
        for at in sorted(self.sureness.breakable):
            first.setdefault((self.row_deeds[at][0], self.row_deeds[at][2]), at)
        return first

    def is_pair(self, former, later):
        """Whether two deeds are dependent, and the former one is not surely ahead of the later one."""
        if not 0 <= former < later < len(self.row_deeds):
            return False
        if not are_dependent(self.row_deeds[former], self.row_deeds[later]):
            return False
        past = past_to_order(self.links, self.sureness.pasts, later)
        return not self.sureness.is_in(former, past)
