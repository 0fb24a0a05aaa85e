"""Tasks that last so many steps, so many at once."""

from everypipe.errors import BadMany
from everypipe.plans import is_many
from everypipe.refusals import BadLasts
from everypipe.tasks import check_tasks, needs_by_name


def is_lasts(thing, names):
    if not isinstance(thing, dict) or len(thing) != len(names):
        return False
    return all([name in thing and is_many(thing[name]) for name in names])


def first_that_can_begin(needs, begins, ended):
    """The first name that has not begun, and all of whose needs have ended; None if there is none."""
    for name, needed in needs.items():
        if name not in begins and all([need in ended for need in needed]):
            return name
    return None


def by_slots(tasks, many, lasts):
    check_tasks(tasks)
    if not is_many(many):
        raise BadMany(many)
    needs = needs_by_name(tasks)
    if not is_lasts(lasts, list(needs)):
        raise BadLasts(lasts)
    moment = 0
    begins = {}
    ended = {}
    while len(ended) < len(needs):
        name = first_that_can_begin(needs, begins, ended)
        while name is not None and len(begins) - len(ended) < many:
            begins[name] = moment
            name = first_that_can_begin(needs, begins, ended)
        moment = min([begins[one] + lasts[one] for one in begins if one not in ended])
        for one in begins:
            if begins[one] + lasts[one] <= moment:
                ended[one] = True
    places = {name: at for at, name in enumerate(needs)}
    ranked = sorted([(begin, places[name], name) for name, begin in begins.items()])
    return [(name, begin, begin + lasts[name]) for begin, _, name in ranked]
