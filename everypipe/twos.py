"""Two schedules of one machine whose rows part."""

from everypipe.kinds import is_listed_of
from everypipe.looking import check_fresh, check_many, looked
from everypipe.machines import check_schedule, schedule_fault
from everypipe.orders import dependent_ahead
from everypipe.refusals import TooMany
from everypipe.replays import picks_for
from everypipe.secondways import picks_of, ways_of
from everypipe.words import TOUCHING


def told_part(deed):
    """What of a deed is looked at: an over by a child has the child alone."""
    return deed[:3] if deed[1] == "over" and deed[2] is not None else deed


class Behind:
    """A whole row of a machine as it is looked at: the own rows, without a broken put at their ends."""

    def __init__(self, machine):
        self.row_deeds = machine.deeds()
        self.not_over = machine.left()
        self.own = {}
        for deed in self.row_deeds:
            own = self.own.setdefault(deed[0], [])
            if deed[1] != "broken":
                own.append(told_part(deed))

    def own_row(self, name):
        return self.own.get(name, [])


def are_own_rows_unlike(one, other, name):
    """Whether the own rows of a process tell two rows apart."""
    here, there = one.own_row(name), other.own_row(name)
    many = min(len(here), len(there))
    if here[:many] != there[:many]:
        return True
    behind = [*here[many:], *there[many:]]
    if any([deed[1] in TOUCHING for deed in behind]):
        return True
    return len(behind) > 0 and name in one.not_over and name in other.not_over


def common_places(one, other):
    """The dict from pairs of a process and a number to the place in a row, of the deeds that stand in both rows."""
    many = {name: min(len(one.own_row(name)), len(other.own_row(name))) for name in one.own}
    done = {name: 0 for name in many}
    places = {}
    for at, deed in enumerate(one.row_deeds):
        name = deed[0]
        if done[name] < many[name]:
            places[(name, done[name])] = at
        done[name] = done[name] + 1
    return places


def is_order_unlike(one, other):
    """Whether two dependent deeds stand in either order; own rows are beginnings of one another."""
    here, there = common_places(one, other), common_places(other, one)
    twins = {at: there[place] for place, at in here.items()}
    for later, formers in enumerate(dependent_ahead(one.row_deeds)):
        if later in twins and any([former in twins and twins[former] > twins[later] for former in formers]):
            return True
    return False


def do_part(one, other):
    """Whether two whole rows of a machine part."""
    names = [*list(one.own), *[name for name in other.own if name not in one.own]]
    if one.not_over != other.not_over or any([are_own_rows_unlike(one, other, name) for name in names]):
        return True
    return is_order_unlike(one, other)


def behind_schedule(machine, schedule, many):
    """A copy of a machine run by a schedule, None if it is not whole then."""
    copy = machine.copy()
    copy.run(schedule, many)
    return copy if copy.is_whole() else None


def is_two(machine, thing, many):
    check_fresh(machine)
    check_many(many)
    if not is_listed_of(thing, 2) or not all([schedule_fault(schedule) is None for schedule in thing]):
        return False
    one = behind_schedule(machine, thing[0], many)
    other = behind_schedule(machine, thing[1], many)
    return one is not None and other is not None and do_part(Behind(one), Behind(other))


def two_schedules(machine, many):
    check_fresh(machine)
    check_many(many)
    look = looked(machine, many)
    if look.verdict is None or look.verdict[0] in ("one", "open"):
        return None
    late = Behind(look.machine)
    for way in ways_of(look.story, look.verdict):
        other = machine.copy()
        picks = picks_of(other, many, way)
        if other.is_whole() and do_part(late, Behind(other)):
            return (picks_for(machine, late.row_deeds), picks)
    return None


def left_alike(machine, one, other, many):
    check_fresh(machine)
    check_schedule(one)
    check_schedule(other)
    check_many(many)
    here, there = behind_schedule(machine, one, many), behind_schedule(machine, other, many)
    if here is None or there is None:
        raise TooMany(many)
    return here.files() == there.files() and here.left() == there.left()
