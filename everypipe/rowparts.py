"""The own rows of processes in rows of deeds, and where two rows part."""

from everypipe.rowforms import told_deeds


def own_parts(deeds):
    """As own_rows, of deeds in copies."""
    names = {deed[0]: True for deed in deeds}
    found = {name: [] for name in sorted(names)}
    for deed in deeds:
        found[deed[0]].append(deed)
    return found


def own_rows(row):
    return own_parts(told_deeds(row))


def first_other_deed(one, other):
    """The index of the first deed in which two lists of deeds are unlike, None if there is none."""
    for at in range(min(len(one), len(other))):
        if one[at] != other[at]:
            return at
    return None if len(one) == len(other) else min(len(one), len(other))


def parting(one, other):
    here, there = own_parts(told_deeds(one)), own_parts(told_deeds(other))
    for name in sorted({**here, **there}):
        at = first_other_deed(here.get(name, []), there.get(name, []))
        if at is not None:
            return (name, at)
    return None


def first_unlike(one, other):
    return first_other_deed(told_deeds(one), told_deeds(other))
