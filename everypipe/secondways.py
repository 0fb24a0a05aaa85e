"""Runs of a machine that are to be unlike its late one: some deeds are held back as long as others can go on."""

from everypipe.barring import is_next_broken
from everypipe.doings import do_step
from everypipe.lateness import lateness_of

# Numbers that look drawn: each is the last one times FACTOR and STEP more, without what is above GREATEST.
FACTOR = 1103515245
STEP = 12345
GREATEST = 2 ** 31
MANY_DRAWN = 12


class Holding:
    """Who is held back, and where.

    numbers tell of processes at which own deed each is held unless it is broken there; last is a process
    that is held behind all others; former and later, if they are not None, are pairs of a process and the
    number of its deed: up to the later deed the former one is not done as long as others can go on.
    """

    def __init__(self, numbers, last, former, later):
        self.numbers = numbers
        self.last = last
        self.former = former
        self.later = later

    def is_held_back(self, world, name):
        process = world.folk[name]
        is_there = name in self.numbers and process.deeds_done == self.numbers[name] - 1
        return is_there and not is_next_broken(world, process)

    def is_led(self, world):
        """Whether the later deed is still to be done."""
        if self.later is None:
            return False
        name, number = self.later
        return name not in world.folk or world.folk[name].deeds_done < number

    def rank(self, world, name):
        """The less, the sooner a process goes on."""
        is_led = self.is_led(world)
        if is_led and name == self.former[0] and world.folk[name].deeds_done >= self.former[1] - 1:
            return 4
        if self.is_held_back(world, name):
            return 3 if name == self.last else 2
        return 0 if is_led and name == self.later[0] else 1


class Hasty:
    """What bars others goes ahead of what does not."""

    def rank(self, world, name):
        return 3 - lateness_of(world, world.folk[name], [])[0]


class Backward:
    """The greatest process goes ahead."""

    def rank(self, world, name):
        return 0 - world.begun_names.index(name)


class Drawn:
    def __init__(self, drawn):
        self.drawn = drawn

    def rank(self, world, name):
        self.drawn = (self.drawn * FACTOR + STEP) % GREATEST
        return self.drawn // 65536


def picks_of(machine, many, way):
    """Do at most many deeds, each by the first process of the least rank; the numbers of a schedule for it."""
    picks = []
    able = machine.can()
    while len(picks) < many and len(able) > 0:
        ranks = [way.rank(machine.world, name) for name in able]
        picks.append(ranks.index(min(ranks)))
        do_step(machine.world, machine.world.folk[able[picks[-1]]])
        able = machine.can()
    return picks


def senders(deeds, numbers):
    """The dict from processes to the number of the first signal that they send."""
    found = {}
    for deed, number in zip(deeds, numbers):
        if deed[1] == "signal":
            found.setdefault(deed[0], number)
    return found


def pair_ways(story, word):
    """Ways that do the later deed of a pair ahead of the former one."""
    former, later = [(story.row_deeds[at][0], story.number(at)) for at in word[1:]]
    return [Holding(story.sureness.cut, None, former, later), Holding({}, None, former, later)]


def ways_of(story, word):
    """The ways in which a run may part from the late one with this story and word, the likeliest first."""
    cut = story.sureness.cut
    ways = pair_ways(story, word) if word[0] == "pair" else [Holding(cut, word[1], None, None)]
    ways.append(Holding(cut, None, None, None))
    ways.append(Holding(senders(story.row_deeds, story.sureness.numbers), None, None, None))
    ways.extend([Hasty(), Backward(), Holding({}, None, None, None)])
    return [*ways, *[Drawn(number) for number in range(MANY_DRAWN)]]
