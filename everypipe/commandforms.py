"""The forms of scripts, lists, commands and turns; what a form is everypipe.wordforms says."""

from everypipe.kinds import is_listed, is_listed_of, is_name, is_number_to, word_of
from everypipe.wordforms import KEPT, set_name

LENGTHS = {
    "run": 4, "row": 2, "not": 2, "and": 3, "or": 3, "group": 3, "sub": 3,
    "if": 5, "while": 4, "for": 5, "case": 4, "def": 3,
}
KINDS_INSIDE = {
    "run": ("leaf", "sets", "frees", "turns"), "row": ("leaf", "row"), "not": ("leaf", "unchained"),
    "and": ("leaf", "command", "unjoined"), "or": ("leaf", "command", "unjoined"),
    "group": ("leaf", "list", "turns"), "sub": ("leaf", "list", "turns"),
    "if": ("leaf", "list", "list", "list or none", "turns"), "while": ("leaf", "list", "list", "turns"),
    "for": ("leaf", "leaf", "frees", "list", "turns"), "case": ("leaf", "word", "cases", "turns"),
    "def": ("leaf", "leaf", "list"),
}
WORD_WAYS = ("<", ">", ">>", "<:")


def each_form(thing, kind, least):
    """The form of a list of so many things, at least, of one kind."""
    if not is_listed(thing) or len(thing) < least:
        return None
    return (True, [kind for _ in thing])


def script_form(thing):
    return each_form(thing, "pair", 0)


def list_form(thing):
    return each_form(thing, "pair", 1)


def pair_form(thing):
    if not is_listed_of(thing, 2) or not isinstance(thing[1], bool):
        return None
    return (False, ["command", "leaf"])


def plain_beginning(word):
    """The text of the plain piece that a word begins with, "" if it begins with none, whatever it is."""
    if not is_listed(word) or len(word) == 0:
        return ""
    piece = word[0]
    if word_of(piece) == "plain" and len(piece) == 2 and isinstance(piece[1], str):
        return piece[1]
    return ""


def is_run(thing):
    """Whether sets, words and turns go together; each of them is looked at elsewhere."""
    sets, words, turns = thing[1], thing[2], thing[3]
    if not (is_listed(sets) and is_listed(words) and is_listed(turns)):
        return False
    if len(sets) + len(words) + len(turns) == 0:
        return False
    if len(words) == 0:
        return True
    first = plain_beginning(words[0])
    if set_name(first) != "":
        return False
    return first not in KEPT or len(sets) > 0 or len(words[0]) != 1


def command_form(thing):
    word = word_of(thing)
    if word not in LENGTHS or len(thing) != LENGTHS[word]:
        return None
    if word == "run" and not is_run(thing):
        return None
    if word in ("for", "def") and not is_name(thing[1]):
        return None
    return (False, list(KINDS_INSIDE[word]))


def unrowed_form(thing):
    return None if word_of(thing) in ("row", "not", "and", "or") else command_form(thing)


def unchained_form(thing):
    return None if word_of(thing) in ("not", "and", "or") else command_form(thing)


def unjoined_form(thing):
    return None if word_of(thing) in ("and", "or") else command_form(thing)


def row_form(thing):
    return each_form(thing, "unrowed", 2)


def sets_form(thing):
    return each_form(thing, "set", 0)


def set_form(thing):
    if not is_listed_of(thing, 2) or not is_name(thing[0]):
        return None
    return (False, ["leaf", "bare"])


def words_form(thing):
    return each_form(thing, "word", 1)


def frees_form(thing):
    return each_form(thing, "free", 0)


def cases_form(thing):
    return each_form(thing, "case", 1)


def case_form(thing):
    return (False, ["words", "list"]) if is_listed_of(thing, 2) else None


def turns_form(thing):
    return each_form(thing, "turn", 0)


def turn_form(thing):
    if not is_listed_of(thing, 3) or not is_number_to(thing[0], 9) or not isinstance(thing[1], str):
        return None
    way, what = thing[1], thing[2]
    if way in WORD_WAYS:
        return (False, ["leaf", "leaf", "word"])
    right = (way == "&" and is_number_to(what, 9)) or (way == "-" and what is None)
    return (False, ["leaf", "leaf", "leaf"]) if right else None


FORMS = {
    "script": script_form, "list": list_form, "pair": pair_form, "command": command_form, "row": row_form,
    "unrowed": unrowed_form, "unchained": unchained_form, "unjoined": unjoined_form, "sets": sets_form,
    "set": set_form, "words": words_form, "frees": frees_form, "cases": cases_form, "case": case_form,
    "turns": turns_form, "turn": turn_form,
}


def form_of_command(kind, thing):
    form = FORMS[kind]
    return form(thing)
