"""The least kinds: signs, names, numbers, and what stands for a list."""

# All signs, ascending. The one sign between "$" and "&" is none of them.
SIGNS = " !\"#$&'()*+,-./0123456789:;<=>?@ABCDEFGHIJKLMNOPQRSTUVWXYZ[\\]^_`abcdefghijklmnopqrstuvwxyz{|}~"
LETTERS = "abcdefghijklmnopqrstuvwxyz"
FIGURES = "0123456789"
# A line has at most so many signs.
LINE_SIGNS = 60


def is_integer(thing):
    """A bool is an int for Python, but no integer here."""
    return isinstance(thing, int) and not isinstance(thing, bool)


def is_number(thing):
    return is_integer(thing) and thing >= 0


def is_number_to(thing, most):
    return is_number(thing) and thing <= most


def is_listed(thing):
    """Lists and tuples mean the same; a string is no list."""
    return isinstance(thing, (list, tuple))


def is_listed_of(thing, many):
    return is_listed(thing) and len(thing) == many


def word_of(thing):
    """The word that a tuple of some kind begins with, "" if it begins with none."""
    if is_listed(thing) and len(thing) > 0 and isinstance(thing[0], str):
        return thing[0]
    return ""


def is_string_of(thing, signs):
    if not isinstance(thing, str):
        return False
    return all([sign in signs for sign in thing])


def is_sign(thing):
    return is_string_of(thing, SIGNS) and len(thing) == 1


def is_text(thing):
    """Whether a thing is a string of signs and line feeds."""
    return is_string_of(thing, SIGNS + "\n")


def is_line_of_signs(thing):
    return is_string_of(thing, SIGNS) and len(thing) <= LINE_SIGNS


def is_name(thing):
    if not is_string_of(thing, LETTERS + FIGURES):
        return False
    return 1 <= len(thing) <= 8 and thing[0] in LETTERS


def is_argument_number(thing):
    """Whether a thing is one of the strings "1" to "9"."""
    return isinstance(thing, str) and len(thing) == 1 and thing in "123456789"


def is_lot(thing):
    """A lot has unlike signs, ascending, one at least and not all."""
    if not is_string_of(thing, SIGNS) or not 0 < len(thing) < len(SIGNS):
        return False
    return all([thing[at] < thing[at + 1] for at in range(len(thing) - 1)])


def lines_fault(thing):
    """The index of the first thing that is no line, 0 for no list, None if all are lines."""
    if not is_listed(thing):
        return 0
    for at, line in enumerate(thing):
        if not is_line_of_signs(line):
            return at
    return None
