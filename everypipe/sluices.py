"""Rows of cat, grep, head and tail, fed line by line: the least list of which two of them tell unlike lists.

Up to its first tail a row lets each line through or not, at once; what stands behind is done at the end.
So finitely many states of two rows are all that lists lead to, and a list that leads to one that a
lesser list led to need not go on.
"""

from everypipe.rowworks import RowWork


class Sluice:
    """A row in which no tail has the number 0.

    kept is how many lines its first tail holds; without a tail None, that is all, or 0 for those of the
    last step alone. A state is the pair of how many lines its heads let through, and of what is held.
    """

    def __init__(self, row, kept):
        tails = [at for at, piece in enumerate(row) if piece[0] == "tail"]
        end = tails[0] if len(tails) > 0 else len(row)
        self.ahead = RowWork(row[:end])
        self.rest = RowWork(row[end:])
        self.kept = row[end][1] if len(tails) > 0 else kept
        self.ends = {}

    def begin(self):
        return (tuple([0 for _ in self.ahead.row]), ())

    def fed(self, state, line):
        counts, held = list(state[0]), state[1]
        for at, piece in enumerate(self.ahead.row):
            is_through = self.ahead.sieves[at].keeps(line) if piece[0] == "grep" else piece[0] == "cat"
            if piece[0] == "head" and counts[at] < piece[1]:
                counts[at] = counts[at] + 1
                is_through = True
            if not is_through:
                return (tuple(counts), () if self.kept == 0 else held)
        return (tuple(counts), self.held_behind(held, line))

    def held_behind(self, held, line):
        if self.kept == 0:
            return (line,)
        longer = (*held, line)
        return longer if self.kept is None else longer[max(0, len(longer) - self.kept):]

    def told(self, state):
        """What the row tells if nothing more comes, or, if it holds the last step alone, by this step."""
        if state[1] not in self.ends:
            self.ends[state[1]] = self.rest.told(list(state[1]))
        return self.ends[state[1]]


def first_selected(one, other, lines):
    """The least list of some lines, which ascend, of which two rows tell unlike lists, None if there is none."""
    has_tail = any([piece[0] == "tail" for piece in [*one, *other]])
    here, there = Sluice(one, None if has_tail else 0), Sluice(other, None if has_tail else 0)
    waiting = [([], (here.begin(), there.begin()))]
    met = {waiting[0][1]: True}
    while len(waiting) > 0:
        found = []
        for told, (mine, yours) in waiting:
            if here.told(mine) != there.told(yours):
                return told
            for line in lines:
                states = (here.fed(mine, line), there.fed(yours, line))
                if states not in met:
                    met[states] = True
                    found.append(([*told, line], states))
        waiting = found
    return None
