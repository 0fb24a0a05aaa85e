"""Rows of given pieces that tell the same of all lines, and least lines of which they do not."""

from everypipe.errors import BadMany
from everypipe.kinds import is_line_of_signs, is_listed, is_number
from everypipe.marks import marks, sorted_lines
from everypipe.patterntexts import pattern_text
from everypipe.refusals import BadAlphabet, UnlikeRows
from everypipe.rows import told_row
from everypipe.rowsteps import first_way
from everypipe.rowworks import RowWork
from everypipe.sluices import first_selected

SELECTING = ("cat", "grep", "head", "tail")
SORTING = ("cat", "grep", "sort", "uniq")
# Sorting rows that are not alike are so of lists of at most so many marks.
SORTED_LINES = 3


def check_alphabet(lines):
    if not is_listed(lines):
        raise BadAlphabet(0)
    ahead = {}
    for at, line in enumerate(lines):
        if not is_line_of_signs(line) or line in ahead:
            raise BadAlphabet(at)
        ahead[line] = True


def first_list(one, other, lines, many):
    """The least list of at most many of some lines, which ascend, of which two rows tell unlike lists."""
    here, there = RowWork(one), RowWork(other)
    found = [[]]
    left = many
    while len(found) > 0:
        for told in found:
            if here.told(told) != there.told(told):
                return list(told)
        found = [[*told, line] for told in found for line in lines] if left > 0 else []
        left = left - 1
    return None


def parting_within(one, other, lines, many):
    here, there = told_row(one), told_row(other)
    check_alphabet(lines)
    if not is_number(many):
        raise BadMany(many)
    return first_list(here, there, sorted_lines(lines), many)


def has_alone(row, words):
    return all([piece[0] in words for piece in row])


def row_sort(row):
    pieces = told_row(row)
    if has_alone(pieces, SELECTING):
        return "selecting"
    return "sorting" if has_alone(pieces, SORTING) else None


def marks_of_rows(one, other):
    """As marks_of, of rows in copies."""
    patterns = {pattern_text(piece[1]): piece[1] for piece in [*one, *other] if piece[0] == "grep"}
    return marks(list(patterns.values()))


def marks_of(one, other):
    return marks_of_rows(told_row(one), told_row(other))


def parting_stream(one, other):
    here, there = told_row(one), told_row(other)
    both = [*here, *there]
    if has_alone(both, SELECTING):
        return first_selected(first_way(here)[1], first_way(there)[1], marks_of_rows(here, there))
    if has_alone(both, SORTING):
        return first_list(here, there, marks_of_rows(here, there), SORTED_LINES)
    raise UnlikeRows()
