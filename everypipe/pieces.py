"""The pieces that given programs are called by: what is one."""

from everypipe.kinds import is_integer, is_line_of_signs, is_number, is_number_to, word_of
from everypipe.patterns import is_pattern

# What stands behind the word of each piece, by the kinds that is_piece_part tells of.
PIECE_KINDS = {
    "cat": (), "tee": ("other",), "cut": ("place",), "uniq": (), "grep": ("pattern",), "head": ("number",),
    "tail": ("number",), "sort": (), "wc": (), "paste": ("other",), "seq": ("integer", "integer"), "yes": ("line",),
    "true": (), "false": (),
}


def is_piece_part(kind, thing):
    if kind == "other":
        return is_number_to(thing, 31) and thing > 2
    if kind == "place":
        return is_number(thing) and thing > 0
    if kind == "pattern":
        return is_pattern(thing)
    if kind == "number":
        return is_number(thing)
    return is_integer(thing) if kind == "integer" else is_line_of_signs(thing)


def is_piece(thing):
    word = word_of(thing)
    if word not in PIECE_KINDS:
        return False
    kinds = PIECE_KINDS[word]
    if len(thing) != len(kinds) + 1:
        return False
    return all([is_piece_part(kind, part) for kind, part in zip(kinds, thing[1:])])
