"""The marks of some patterns: of each lot of lines in which just the same ones match a stretch the two least."""

from everypipe.kinds import LINE_SIGNS, SIGNS
from everypipe.matching import moved, moves_of, spread
from everypipe.patterns import lots_of
from everypipe.walks import told_places

MANY = 2


def somewhere(pattern):
    """The pattern of the lines of which some stretch matches one."""
    return ("row", ("often", ("any",)), ("row", pattern, ("often", ("any",))))


def least_signs(patterns):
    """The two least signs of each sort, one of a sort of one, ascending."""
    lots = [lot for pattern in patterns for lot in lots_of(pattern)]
    found = {}
    for sign in SIGNS:
        signs = found.setdefault("".join(["1" if sign in lot else "0" for lot in lots]), [])
        if len(signs) < MANY:
            signs.append(sign)
    return sorted([sign for signs in found.values() for sign in signs])


class Marking:
    """Lines gone through from the least one on; of those with the same places behind them the two least count."""

    def __init__(self, patterns):
        self.signs = least_signs(patterns)
        self.moves = [moves_of(somewhere(pattern)) for pattern in patterns]
        self.met = {}
        self.lots = {}

    def is_put(self, line, stand):
        """Whether a line is one of the two least with these places; it is put into its lot then."""
        self.met[stand] = self.met.get(stand, 0) + 1
        if self.met[stand] > MANY:
            return False
        lot = self.lots.setdefault(tuple([1 in places for places in stand]), [])
        if len(lot) < MANY:
            lot.append(line)
        return True

    def begin(self):
        stand = tuple([told_places(moves, spread(moves, [0])) for moves in self.moves])
        self.is_put("", stand)
        return [("", stand)]

    def behind(self, pairs):
        """The pairs of lines with one sign more and of their places, of all that count."""
        found = []
        for line, stand in pairs:
            for sign in self.signs:
                both = list(zip(self.moves, stand))
                other = tuple([told_places(moves, moved(moves, places, sign)) for moves, places in both])
                if self.is_put(line + sign, other):
                    found.append((line + sign, other))
        return found


def marks(patterns):
    """The ascending list of the marks of patterns."""
    marking = Marking(patterns)
    pairs = marking.begin()
    for _ in range(LINE_SIGNS):
        pairs = marking.behind(pairs)
    return sorted_lines([line for lot in marking.lots.values() for line in lot])


def sorted_lines(lines):
    """Lines ascending: the shorter one first, of like length as strings ascend."""
    pairs = sorted([(len(line), line) for line in lines])
    return [line for _, line in pairs]
