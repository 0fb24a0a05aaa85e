"""Rows of deeds by their kinds alone, as they are written as text."""

from everypipe.deedforms import deed_of
from everypipe.kinds import is_integer, is_listed
from everypipe.refusals import BadRowOf

# Numbers have at most nineteen figures.
TOO_GREAT = 10 ** 19


def has_great_number(deed):
    waiting = list(deed)
    while len(waiting) > 0:
        thing = waiting.pop()
        if is_listed(thing):
            waiting.extend(list(thing))
        elif is_integer(thing) and thing >= TOO_GREAT:
            return True
    return False


def told_deeds(row):
    """The deeds of a row, in copies."""
    if not is_listed(row):
        raise BadRowOf(0)
    deeds = [deed_of(thing) for thing in row]
    for at, deed in enumerate(deeds):
        if deed is None or has_great_number(deed):
            raise BadRowOf(at)
    return deeds
