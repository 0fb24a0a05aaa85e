"""Wishes of actors: what is one, and what it comes to in copies of just the kinds that are told."""

from everypipe.errors import PipeError
from everypipe.filetrees import is_file, is_path
from everypipe.kinds import is_line_of_signs, is_listed, is_listed_of, is_number, is_number_to, word_of
from everypipe.programs import Program
from everypipe.signs import is_sign_word

SIDES = ("take", "put")
WAYS = ("read", "cut", "add")


def is_actor(thing):
    """Whether a thing can be an actor, by its kind; nothing tells of an object whether it can be called."""
    return thing is not None and not isinstance(thing, (int, str, list, tuple, dict, Program, PipeError))


def is_descriptor(thing):
    return is_number_to(thing, 31)


def is_side(thing):
    return isinstance(thing, str) and thing in SIDES


def is_own(thing):
    return is_listed_of(thing, 2) and thing[0] == "own" and is_descriptor(thing[1])


def is_new(thing):
    return is_listed_of(thing, 3) and thing[0] == "new" and is_number(thing[1]) and is_side(thing[2])


def told_leads(thing, has_own, has_new):
    """A table as a wish has it, in a copy, ascending; None if it is none."""
    if not isinstance(thing, dict):
        return None
    for n, lead in thing.items():
        if not is_descriptor(n) or not ((has_own and is_own(lead)) or (has_new and is_new(lead))):
            return None
    return {n: tuple(thing[n]) for n in sorted(thing)}


def told_child(thing):
    """A pair of an actor and a table, in a copy; None if it is none."""
    if not is_listed_of(thing, 2) or not is_actor(thing[0]):
        return None
    leads = told_leads(thing[1], True, True)
    return None if leads is None else (thing[0], leads)


def open_wish(thing):
    if len(thing) != 4 or not is_descriptor(thing[1]) or not isinstance(thing[3], str):
        return None
    if thing[3] == "lines":
        return ("open", thing[1], list(thing[2]), "lines") if is_file(thing[2]) else None
    return tuple(thing) if thing[3] in WAYS and is_path(thing[2]) else None


def start_wish(thing):
    if len(thing) != 3 or not is_listed(thing[1]):
        return None
    children = [told_child(child) for child in thing[1]]
    own = told_leads(thing[2], False, True)
    if own is None or any([child is None for child in children]):
        return None
    return ("start", children, own)


def become_wish(thing):
    if len(thing) != 3 or not is_actor(thing[1]):
        return None
    leads = told_leads(thing[2], True, False)
    return None if leads is None else ("become", thing[1], leads)


def over_wish(thing):
    if len(thing) != 2:
        return None
    if is_number_to(thing[1], 255):
        return tuple(thing)
    is_child = is_listed_of(thing[1], 2) and thing[1][0] == "child" and is_number(thing[1][1])
    return ("over", tuple(thing[1])) if is_child else None


def plain_wish(thing):
    """A wish of those that have numbers, lines, paths and words alone."""
    word = thing[0]
    if word in ("take", "close"):
        is_right = len(thing) == 2 and is_descriptor(thing[1])
    elif word == "put":
        is_right = len(thing) == 3 and is_descriptor(thing[1]) and is_line_of_signs(thing[2])
    elif word in ("look", "list"):
        is_right = len(thing) == 2 and is_path(thing[1])
    elif word in ("wait", "ask"):
        is_right = len(thing) == 2 and is_number(thing[1])
    else:
        is_right = word == "signal" and len(thing) == 3 and is_number(thing[1]) and is_sign_word(thing[2])
    return tuple(thing) if is_right else None


def wish_of(thing):
    """The wish that a thing is, in a copy; None if it is none."""
    word = word_of(thing)
    if word == "open":
        return open_wish(thing)
    if word == "start":
        return start_wish(thing)
    if word == "become":
        return become_wish(thing)
    if word == "over":
        return over_wish(thing)
    return plain_wish(thing) if word != "" else None


def child_asked(wish):
    """The number of the child that a wish is about, None if it is about none."""
    if wish[0] in ("wait", "ask", "signal"):
        return wish[1]
    if wish[0] == "over" and not is_number(wish[1]):
        return wish[1][1]
    return None
