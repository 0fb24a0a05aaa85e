"""Programs: rows that work on registers, counters and a shelf."""

from everypipe.errors import BadRows
from everypipe.kinds import is_integer, is_line_of_signs, is_listed, is_listed_of, is_number, is_number_to, word_of
from everypipe.patterntexts import pattern_fault

LINE_NAMES = "abcdefgh"
COUNTER_NAMES = "ijklmn"
# What stands behind the word of each row, by the kinds that is_such tells of.
ROW_KINDS = {
    "take": ("descriptor", "line", "at"), "put": ("descriptor", "parts"), "close": ("descriptor",),
    "end": ("status",), "set": ("line", "parts"), "field": ("line", "line", "place"),
    "match": ("pattern", "line", "at"), "same": ("line", "line", "at"), "count": ("counter", "more"),
    "less": ("counter", "more", "at"), "jump": ("at",), "keep": ("parts",), "first": ("line", "at"),
    "least": ("line", "at"),
}


def is_one_of(thing, names):
    return isinstance(thing, str) and len(thing) == 1 and thing in names


def is_part(thing):
    if not is_listed_of(thing, 2):
        return False
    word = word_of(thing)
    if word == "text":
        return is_line_of_signs(thing[1])
    if word == "line":
        return is_one_of(thing[1], LINE_NAMES)
    return word == "count" and is_one_of(thing[1], COUNTER_NAMES)


def is_such(kind, thing, many):
    """Whether a thing is of a kind of ROW_KINDS, in a program of so many rows."""
    if kind == "descriptor":
        return is_number_to(thing, 31)
    if kind == "line":
        return is_one_of(thing, LINE_NAMES)
    if kind == "at":
        return is_number_to(thing, many)
    if kind == "parts":
        return is_listed(thing) and all([is_part(part) for part in thing])
    if kind == "status":
        return is_number_to(thing, 255)
    if kind == "place":
        return is_number(thing) and thing > 0
    if kind == "pattern":
        return pattern_fault(thing) is None
    if kind == "counter":
        return is_one_of(thing, COUNTER_NAMES)
    return is_integer(thing) or is_one_of(thing, COUNTER_NAMES)


def is_row_of(thing, many):
    word = word_of(thing)
    if word not in ROW_KINDS:
        return False
    kinds = ROW_KINDS[word]
    if len(thing) != len(kinds) + 1:
        return False
    return all([is_such(kind, inside, many) for kind, inside in zip(kinds, thing[1:])])


def copied_row(row):
    """A new row: a tuple, its parts a list of tuples."""
    return tuple([[tuple(part) for part in thing] if is_listed(thing) else thing for thing in row])


class Program:
    def __init__(self, rows):
        if not is_listed(rows):
            raise BadRows(0)
        for at, row in enumerate(rows):
            if not is_row_of(row, len(rows)):
                raise BadRows(at)
        self._rows = [copied_row(row) for row in rows]

    def rows(self):
        return [copied_row(row) for row in self._rows]

    def __eq__(self, other):
        return isinstance(other, Program) and self._rows == other._rows
