"""Rows of given pieces that take lines and put lines: what they tell."""

from everypipe.givens import put_lines, status_of
from everypipe.kinds import is_listed, lines_fault
from everypipe.patterntexts import pattern_text, read_pattern
from everypipe.pieces import is_piece
from everypipe.refusals import BadLines, BadRow

ROW_WORDS = ("cat", "grep", "sort", "uniq", "head", "tail", "cut", "wc")
NO_LINES = ("head", 0)


def is_row(thing):
    if not is_listed(thing) or len(thing) == 0:
        return False
    return all([is_piece(piece) and piece[0] in ROW_WORDS for piece in thing])


def told_piece(piece):
    """A piece in a copy, of tuples throughout."""
    return ("grep", read_pattern(pattern_text(piece[1]))) if piece[0] == "grep" else tuple(piece)


def told_row(row):
    """The row that a thing is, in a copy."""
    if not is_row(row):
        raise BadRow(row)
    return [told_piece(piece) for piece in row]


def lines_of(row, lines):
    for piece in row:
        lines = put_lines(piece, {0: lines})
    return lines


def check_lines(lines):
    fault = lines_fault(lines)
    if fault is not None:
        raise BadLines(fault)


def row_lines(row, lines):
    pieces = told_row(row)
    check_lines(lines)
    return list(lines_of(pieces, lines))


def row_status(row, lines):
    pieces = told_row(row)
    check_lines(lines)
    return status_of(pieces[-1], lines_of(pieces, lines))


def dead_pieces(row):
    pieces = told_row(row)
    return max([at for at, piece in enumerate(pieces) if piece == NO_LINES], default=0)
