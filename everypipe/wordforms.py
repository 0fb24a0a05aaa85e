"""The forms of words, pieces and sums.

A form tells of one thing alone what it is: a pair of whether it is told as a list
(else as a tuple) and of the kinds of all that stands in it; None if it is wrong.
What stands in it is looked at by everypipe.shellforms, so that no depth is too deep.
"""

from everypipe.kinds import is_argument_number, is_listed, is_listed_of, is_name
from everypipe.kinds import is_number_to, is_string_of, is_text, word_of

PLAIN = "*+,-./0123456789:=?@ABCDEFGHIJKLMNOPQRSTUVWXYZ[]^_abcdefghijklmnopqrstuvwxyz~"
KEPT = ("if", "then", "else", "end", "while", "do", "for", "case", "when", "def")
TWO_SUMS = ("+", "-", "*", "/", "~", "<", "<=", "=")
GREATEST = 999999999


def is_parameter(thing):
    return is_name(thing) or is_argument_number(thing) or thing in ("?", "#")


def is_name_or_figure(thing):
    return is_name(thing) or is_argument_number(thing)


def is_plain(thing):
    return is_string_of(thing, PLAIN) and thing != ""


def sum_form(thing):
    word = word_of(thing)
    if word == "number":
        right = len(thing) == 2 and is_number_to(thing[1], GREATEST)
        return (False, ["leaf", "leaf"]) if right else None
    if word == "name":
        right = len(thing) == 2 and is_name(thing[1])
        return (False, ["leaf", "leaf"]) if right else None
    if word == "less":
        return (False, ["leaf", "sum"]) if len(thing) == 2 else None
    if word in TWO_SUMS and len(thing) == 3:
        return (False, ["leaf", "sum", "sum"])
    return None


def text_piece_form(thing):
    right = len(thing) == 2 and (is_plain(thing[1]) if thing[0] == "plain" else is_text(thing[1]))
    return (False, ["leaf", "leaf"]) if right else None


def parameter_piece_form(thing):
    if len(thing) < 3 or not isinstance(thing[-1], bool):
        return None
    if thing[0] == "value":
        right = len(thing) == 3 and is_parameter(thing[1])
        return (False, ["leaf", "leaf", "leaf"]) if right else None
    if not is_name_or_figure(thing[1]):
        return None
    if thing[0] == "size":
        return (False, ["leaf", "leaf", "leaf"]) if len(thing) == 3 else None
    return (False, ["leaf", "leaf", "bare", "leaf"]) if len(thing) == 4 else None


def inner_piece_form(thing):
    if len(thing) != 3 or not isinstance(thing[2], bool):
        return None
    return (False, ["leaf", "list" if thing[0] == "out" else "sum", "leaf"])


def piece_form(thing):
    word = word_of(thing)
    if word in ("plain", "held"):
        return text_piece_form(thing)
    if word in ("value", "size", "else"):
        return parameter_piece_form(thing)
    if word in ("out", "sum"):
        return inner_piece_form(thing)
    return None


def is_bare_held(piece):
    return is_listed_of(piece, 2) and piece[0] == "held" and piece[1] == ""


def is_held_piece(piece):
    """Whether a piece that puts something in has its is_held True."""
    return is_listed(piece) and len(piece) > 2 and piece[-1] is True


def can_be_beside(one, other):
    if word_of(one) in ("plain", "held") and word_of(one) == word_of(other):
        return False
    if is_bare_held(one) and is_held_piece(other):
        return False
    return not (is_held_piece(one) and is_bare_held(other))


def bare_form(thing):
    """The form of a word that may be empty."""
    if not is_listed(thing):
        return None
    if not all([can_be_beside(thing[at], thing[at + 1]) for at in range(len(thing) - 1)]):
        return None
    return (True, ["piece" for _ in thing])


def word_form(thing):
    """The form of a word that is not all arguments."""
    return bare_form(thing) if is_listed(thing) and len(thing) > 0 else None


def is_all_word(thing):
    return is_listed_of(thing, 1) and is_listed_of(thing[0], 1) and word_of(thing[0]) == "all"


def free_form(thing):
    """The form of a word of a run or a for, which may be all arguments."""
    if is_all_word(thing):
        return (True, ["all"])
    return word_form(thing)


def all_form(thing):
    """The form of the one piece of what is_all_word has found right."""
    return (False, ["leaf" for _ in thing])


FORMS = {"sum": sum_form, "piece": piece_form, "bare": bare_form, "word": word_form, "free": free_form, "all": all_form}


def form_in_word(kind, thing):
    form = FORMS[kind]
    return form(thing)


def is_form_in_word(kind):
    return kind in FORMS


def set_name(text):
    """The NAME that stands with a "=" at the beginning of a plain text, "" if none does."""
    name, sign, _ = text.partition("=")
    return name if sign == "=" and is_name(name) else ""


def is_kept_word(word):
    """Whether a word, of which all is known to be right, is one plain piece that is kept."""
    return len(word) == 1 and word[0][0] == "plain" and word[0][1] in KEPT
