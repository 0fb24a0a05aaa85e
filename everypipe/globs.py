"""Globs: patterns for names."""

from everypipe.errors import BadGlob, BadLine, BadNames
from everypipe.kinds import is_line_of_signs, is_listed, is_listed_of, is_lot, is_sign, lines_fault, word_of
from everypipe.matching import matches_whole, moves_of


def is_item(thing):
    if is_sign(thing):
        return True
    word = word_of(thing)
    if word == "of":
        return is_listed_of(thing, 2) and is_lot(thing[1])
    return word in ("one", "some") and is_listed_of(thing, 1)


def is_glob(thing):
    return is_listed(thing) and all([is_item(item) for item in thing])


def item_pattern(item):
    if isinstance(item, str):
        return ("of", item)
    if item[0] == "one":
        return ("any",)
    return ("often", ("any",)) if item[0] == "some" else ("of", item[1])


def row_of_items(glob):
    """The pattern of a right glob."""
    if len(glob) == 0:
        return ("empty",)
    row = item_pattern(glob[0])
    for item in glob[1:]:
        row = ("row", row, item_pattern(item))
    return row


def glob_pattern(glob):
    if not is_glob(glob):
        raise BadGlob(glob)
    return row_of_items(glob)


def names_taken(glob, names):
    """Those of some lines that a right glob takes, in their order."""
    moves = moves_of(row_of_items(glob))
    has_point = len(glob) > 0 and glob[0] == "."
    return [name for name in names if (has_point or not name.startswith(".")) and matches_whole(moves, name)]


def is_taken(glob, name):
    if not is_glob(glob):
        raise BadGlob(glob)
    if not is_line_of_signs(name):
        raise BadLine(name)
    return len(names_taken(glob, [name])) == 1


def taken_of(glob, names):
    if not is_glob(glob):
        raise BadGlob(glob)
    fault = lines_fault(names)
    if fault is not None:
        raise BadNames(fault)
    return sorted(names_taken(glob, names))
