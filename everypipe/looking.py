"""One run of a machine, in which whatever bars others comes late, and its word."""

from everypipe.errors import BadMany
from everypipe.kinds import is_number
from everypipe.lateness import run_late
from everypipe.machines import Machine
from everypipe.orders import links_of
from everypipe.refusals import BadMachine
from everypipe.stories import Story
from everypipe.words import word_of_story


def check_fresh(machine):
    """A machine here has done no deed."""
    if not isinstance(machine, Machine) or len(machine.world.row) > 0:
        raise BadMachine(machine)


def check_many(many):
    if not is_number(many):
        raise BadMany(many)


def waits_of(machine):
    return {name: machine.waiting(name) for name in machine.left()}


def story_behind(machine):
    """The story of all that a machine, which is whole, has done."""
    return Story(links_of(machine.shape(), machine.deeds()), waits_of(machine))


class Look:
    """A late run: machine is behind it; story and word are None if it is not whole."""

    def __init__(self, machine, many, put_off):
        self.machine = machine.copy()
        run_late(self.machine, many, put_off)
        is_whole = self.machine.is_whole()
        self.story = story_behind(self.machine) if is_whole else None
        self.verdict = word_of_story(self.story) if is_whole else None

    def told_word(self):
        return ("many",) if self.verdict is None else self.verdict


def looked(machine, many):
    """The look that tells of a machine: who lets go too early is put off, and it is looked at anew."""
    put_off = []
    look = Look(machine, many, put_off)
    while look.verdict is not None and look.verdict[0] == "open" and look.verdict[1] not in put_off:
        put_off.append(look.verdict[1])
        look = Look(machine, many, put_off)
    return look


def looked_at(machine, many):
    check_fresh(machine)
    check_many(many)
    look = looked(machine, many)
    if look.verdict is None:
        return ("many",)
    return (look.verdict, look.machine.shape(), look.machine.deeds(), waits_of(look.machine))
