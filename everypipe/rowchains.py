"""Chains of steps from two rows of given pieces to one row, and rewritten rows that are let by."""

from everypipe.kinds import is_listed, is_listed_of
from everypipe.refusals import BadTruth
from everypipe.rows import told_row
from everypipe.rowsteps import after_step, first_way, last_kept


def row_chain(one, other):
    here, there = first_way(told_row(one)), first_way(told_row(other))
    return (here[0], there[0]) if here[1] == there[1] else None


def row_behind_chain(row, steps):
    """The row behind a list of steps, None if it is none, or one step of it cannot be done."""
    if not is_listed(steps):
        return None
    for step in steps:
        row = after_step(row, step)
        if row is None:
            return None
    return row


def is_row_chain(one, other, thing):
    here, there = told_row(one), told_row(other)
    if not is_listed_of(thing, 2):
        return False
    here, there = row_behind_chain(here, thing[0]), row_behind_chain(there, thing[1])
    return here is not None and here == there


def rewrite_fault(one, other, is_asked):
    here, there = told_row(one), told_row(other)
    if not isinstance(is_asked, bool):
        raise BadTruth(is_asked)
    if is_asked:
        here, there = last_kept(here), last_kept(there)
    else:
        here, there = first_way(here)[1], first_way(there)[1]
    return None if here == there else (here, there)
