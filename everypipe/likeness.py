"""Things that mean the same: lists and tuples alike, no bool an integer."""

from everypipe.kinds import is_integer, is_listed, is_listed_of


def is_like(thing, told):
    """Whether an object is the same as what is told: one of integers, strings, None, lists, tuples, dicts."""
    if isinstance(told, dict):
        if not isinstance(thing, dict) or len(thing) != len(told):
            return False
        return all([name in thing and is_like(thing[name], told[name]) for name in told])
    if is_listed(told):
        return is_listed_of(thing, len(told)) and all([is_like(one, other) for one, other in zip(thing, told)])
    if is_integer(told):
        return is_integer(thing) and thing == told
    return thing is None if told is None else isinstance(thing, str) and thing == told
