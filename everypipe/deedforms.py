"""The forms of deeds of machines: what is one, by kinds alone, and its copy of just the kinds that are told."""

from everypipe.filetrees import is_path
from everypipe.kinds import is_integer, is_line_of_signs, is_listed, is_listed_of, is_name, is_number, is_number_to
from everypipe.signs import is_process_name, is_sign_word
from everypipe.wishes import is_side

# Of each word the kinds of the two things behind it.
DEED_KINDS = {
    "take": ("pipe", "line"), "heard": ("pipe or none", "none"), "put": ("pipe or none", "line"),
    "broken": ("pipe", "line"), "read": ("handle", "line"), "done": ("handle", "none"), "write": ("path", "line"),
    "cut": ("path", "none"), "make": ("path", "name"), "list": ("path", "names or none"),
    "find": ("path", "kind or none"), "drop": ("end", "none"), "start": ("pipes", "pipes"), "become": ("ends", "none"),
    "wait": ("pipe", "none"), "ask": ("pipe", "status"), "over": ("pipe or none", "status"), "signal": ("pipe", "sign"),
    "trap": ("trapped", "none"),
}


def is_end(thing):
    """Whether a thing is a pair of the name of a pipe and of a side."""
    return is_listed_of(thing, 2) and is_process_name(thing[0]) and is_side(thing[1])


def is_handle_name(thing):
    if not is_listed(thing) or len(thing) < 2:
        return False
    is_first = is_integer(thing[0]) and thing[0] == -1 and len(thing) == 2
    return (is_first or is_number(thing[0])) and all([is_number(part) for part in thing[1:]])


def is_handle(thing):
    return is_listed_of(thing, 2) and (thing[0] is None or is_path(thing[0])) and is_handle_name(thing[1])


def is_listed_form(kind, thing):
    """As is_of, of what is a list or a tuple."""
    if kind == "names":
        return is_listed(thing) and all([is_name(name) for name in thing])
    if kind == "end":
        return is_end(thing)
    if kind == "ends":
        return is_listed(thing) and all([is_end(part) for part in thing])
    if kind == "handle":
        return is_handle(thing)
    if kind == "pipes":
        return is_listed(thing) and all([is_process_name(name) for name in thing])
    return is_process_name(thing)


def is_of(kind, thing):
    if kind.endswith(" or none"):
        return thing is None or is_of(kind[:-8], thing)
    if kind == "none":
        return thing is None
    if kind == "line":
        return is_line_of_signs(thing)
    if kind == "path":
        return is_path(thing)
    if kind == "name":
        return is_name(thing)
    if kind == "status":
        return is_number_to(thing, 255)
    if kind == "sign":
        return is_sign_word(thing)
    if kind == "trapped":
        return isinstance(thing, str) and thing in ("int", "term")
    if kind == "kind":
        return isinstance(thing, str) and thing in ("file", "directory")
    return is_listed_form(kind, thing)


def told_of(kind, thing):
    if not is_listed(thing):
        return thing
    if kind.startswith("names"):
        return list(thing)
    if kind in ("end", "handle"):
        return tuple([tuple(part) if is_listed(part) else part for part in thing])
    if kind == "ends":
        return tuple([(tuple(pipe), side) for pipe, side in thing])
    return tuple([tuple(name) for name in thing]) if kind == "pipes" else tuple(thing)


def deed_of(thing):
    """The deed that a thing is, in a copy; None if it has not the form of one."""
    if not is_listed_of(thing, 4) or not is_process_name(thing[0]):
        return None
    word = thing[1]
    if not isinstance(word, str) or word not in DEED_KINDS:
        return None
    one, other = DEED_KINDS[word]
    if not is_of(one, thing[2]) or not is_of(other, thing[3]):
        return None
    return (tuple(thing[0]), word, told_of(one, thing[2]), told_of(other, thing[3]))
