"""The processes of a machine, each with its table, its answers, and what it does next."""

from everypipe.doers import begun_with

MOST_SILENT = 1000


def sides_of(leads):
    """The ascending list of the pairs (pipe, side) that a table has."""
    return sorted({(lead[1], lead[2]) for lead in leads.values() if lead[0] == "pipe"})


def is_last_lead(leads, n):
    """Whether by the closing of a descriptor the side of a pipe is held no more."""
    lead = leads.get(n, None)
    if lead is None or lead[0] != "pipe":
        return False
    return not any([other != n and leads[other] == lead for other in leads])


def without(leads, n):
    return {other: leads[other] for other in leads if other != n}


class Ahead:
    """What a process does with its next step: wishes that are no deeds, then one that is.

    leads is its table behind the silent wishes, handles what they open, silent the answers to them.
    """

    def __init__(self, leads):
        self.leads = leads
        self.handles = []
        self.silent = []
        self.wish = None


class Process:
    """leads is its table, outcome its status, None till it is over; held are all sides that it came to hold."""

    def __init__(self, name, actor, leads):
        self.name = name
        self.actor = actor
        self.leads = leads
        self.answers = []
        self.outcome = None
        self.pending = []
        self.children = 0
        self.pipes_made = 0
        self.handles_made = 0
        self.deeds_done = 0
        self.held = sides_of(leads)
        self.doer = None
        self.ahead = None

    def looked_ahead(self):
        if self.ahead is None:
            if self.doer is None:
                self.doer = begun_with(self.actor, self.answers)
            self.ahead = gone_ahead(self)
        return self.ahead

    def answer(self, thing):
        """Hand on the answer to the wish that is done, with those to the silent ones ahead of it."""
        self.answers.append(thing)
        self.doer.feed(thing)
        self.ahead = None

    def hear(self, sign):
        """A sign comes in the place of an answer; of what is looked at ahead nothing is done."""
        if self.ahead is not None and len(self.ahead.silent) > 0:
            self.doer = None
        self.ahead = None
        self.answers.append(("sign", sign))
        if self.doer is not None:
            self.doer.feed(("sign", sign))

    def become(self, actor, leads):
        self.actor = actor
        self.leads = leads
        self.answers = []
        self.doer = None
        self.ahead = None


def is_silent(wish, leads):
    if wish is None or (wish[0] != "close" and (wish[0] != "open" or wish[3] != "lines")):
        return False
    return not is_last_lead(leads, wish[1])


def gone_ahead(process):
    ahead = Ahead(process.leads)
    doer = process.doer
    ahead.wish = doer.wished()
    while is_silent(ahead.wish, ahead.leads):
        word, n = ahead.wish[0], ahead.wish[1]
        ahead.leads = without(ahead.leads, n)
        if word == "open":
            handle = (*process.name, process.handles_made + len(ahead.handles))
            ahead.handles.append((handle, ahead.wish[2]))
            ahead.leads[n] = ("lines", handle)
        ahead.silent.append("" if word == "open" else None)
        doer.feed(ahead.silent[-1])
        ahead.wish = doer.wished() if len(ahead.silent) < MOST_SILENT else ("over", 125)
    if ahead.wish is None:
        ahead.wish = ("over", 120)
    return ahead


def copied_process(process):
    """Another process that goes on by itself; its actor is asked anew."""
    other = Process(process.name, process.actor, {n: process.leads[n] for n in process.leads})
    other.answers = list(process.answers)
    other.outcome = process.outcome
    other.pending = list(process.pending)
    other.children = process.children
    other.pipes_made = process.pipes_made
    other.handles_made = process.handles_made
    other.deeds_done = process.deeds_done
    other.held = list(process.held)
    return other
