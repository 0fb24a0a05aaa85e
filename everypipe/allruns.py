"""All schedules of small machines: every whole row, and how soon two processes can do two deeds."""

from everypipe.errors import BadMost
from everypipe.filelists import things_of
from everypipe.kinds import is_listed_of, is_number
from everypipe.machines import told_deed
from everypipe.refusals import BadPair
from everypipe.rings import check_machine
from everypipe.rowparts import own_parts
from everypipe.rowtexts import deed_text
from everypipe.signs import is_process_name


def state_of(machine):
    """What all that a machine can still do hangs on, as a key: machines with one key go on alike.

    What a process has heard is told by its own deeds; files, pipes and signs also hang on their order.
    """
    world = machine.world
    own = [deed_text(deed) for deeds in own_parts(machine.deeds()).values() for deed in deeds]
    files = [(path, None if lines is None else tuple(lines)) for path, lines in things_of(world.tree).items()]
    pipes = [(pipe, tuple(world.pipes[pipe])) for pipe in sorted(world.pipes)]
    signs = [(name, tuple(world.folk[name].pending)) for name in world.begun_names]
    return ("".join(own), tuple(files), tuple(pipes), tuple(signs))


class Place:
    """A machine somewhere on its ways: led_by is the least list of those that lead there.

    steps are the pairs of its next deeds, by processes, and of the places behind them.
    """

    def __init__(self, machine, led_by):
        self.machine = machine
        self.led_by = led_by
        self.steps = []
        self.tails = []

    def next_places(self):
        """The pairs of the deeds that can be done now, by processes, and of the places behind them."""
        found = []
        for name in self.machine.can():
            copy = self.machine.copy()
            deed = copy.step(name)
            found.append((deed, Place(copy, [*self.led_by, name])))
        return found


class Ways:
    """All places that a machine comes to, level by level; those with one state are one."""

    def __init__(self, machine):
        self.level = [Place(machine.copy(), [])]
        self.levels = [self.level]

    def go_on(self):
        """Go on to the next level."""
        met = {}
        found = []
        for place in self.level:
            for deed, other in place.next_places():
                key = state_of(other.machine)
                if key not in met:
                    met[key] = other
                    found.append(other)
                place.steps.append((deed, met[key]))
        self.level = found
        self.levels.append(found)


def check_most(most):
    if not is_number(most):
        raise BadMost(most)


def put_tails(place):
    """Tell the rows that lead from a place to where the machine is whole, by those of the places behind it."""
    tails = [[]] if place.machine.is_whole() else []
    for deed, other in place.steps:
        tails.extend([[deed, *tail] for tail in other.tails])
    place.tails = tails


def stands_of(machine, most):
    check_machine(machine)
    check_most(most)
    ways = Ways(machine)
    while len(ways.levels) <= most and len(ways.level) > 0:
        ways.go_on()
    for level in ways.levels[::-1]:
        for place in level:
            put_tails(place)
    return [[told_deed(deed) for deed in row] for row in ways.levels[0][0].tails]


def check_pair(pair):
    if not is_listed_of(pair, 2) or not is_process_name(pair[0]) or not isinstance(pair[1], str):
        raise BadPair(pair)


def can_do(place, pair):
    """Whether a process can do a deed with some word next."""
    return any([deed[0] == tuple(pair[0]) and deed[1] == pair[1] for deed, _ in place.steps])


def soonest(machine, one, other, most):
    check_machine(machine)
    check_pair(one)
    check_pair(other)
    check_most(most)
    ways = Ways(machine)
    while len(ways.levels) <= most + 1 and len(ways.level) > 0:
        level = ways.level
        ways.go_on()
        for place in level:
            if can_do(place, one) and can_do(place, other):
                return list(place.led_by)
    return None
