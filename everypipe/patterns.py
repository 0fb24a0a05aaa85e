"""Patterns: what they match, what of them is behind a sign, and their neat forms."""

from everypipe.errors import BadLetter, BadLine, BadPattern
from everypipe.kinds import SIGNS, is_line_of_signs, is_listed, is_lot, is_sign, word_of
from everypipe.matching import first_stretch, matches_whole, moves_of
from everypipe.neatness import behind, is_ending, neat_of, stretched

INNER_PATTERNS = {"none": 0, "empty": 0, "any": 0, "of": 0, "row": 2, "either": 2, "often": 1}


def is_pattern(thing):
    waiting = [thing]
    while len(waiting) > 0:
        part = waiting.pop()
        word = word_of(part)
        if word == "of":
            if len(part) != 2 or not is_lot(part[1]):
                return False
        elif word not in INNER_PATTERNS or len(part) != INNER_PATTERNS[word] + 1:
            return False
        else:
            waiting.extend(list(part[1:]))
    return True


def check_pattern_and_line(pattern, line):
    if not is_pattern(pattern):
        raise BadPattern(pattern)
    if not is_line_of_signs(line):
        raise BadLine(line)


def is_match(pattern, line):
    check_pattern_and_line(pattern, line)
    return matches_whole(moves_of(pattern), line)


def first_match(pattern, line):
    check_pattern_and_line(pattern, line)
    return first_stretch(moves_of(pattern), line)


def can_end(pattern):
    if not is_pattern(pattern):
        raise BadPattern(pattern)
    return is_ending(pattern)


def neat(pattern):
    if not is_pattern(pattern):
        raise BadPattern(pattern)
    return neat_of(pattern)


def behind_letter(pattern, letter):
    if not is_pattern(pattern):
        raise BadPattern(pattern)
    if not is_sign(letter):
        raise BadLetter(letter)
    return behind(neat_of(pattern), letter)


def lots_of(pattern):
    """All lots in a pattern, the ones told twice too."""
    return [part[1] for part in stretched(pattern, ("row", "either", "often")) if part[0] == "of"]


def sort_sizes(patterns):
    """The dict from the least signs of all sorts, ascending, to how many signs each sort has."""
    lots = [lot for pattern in patterns for lot in lots_of(pattern)]
    least = {}
    sizes = {}
    for sign in SIGNS:
        sort = "".join(["1" if sign in lot else "0" for lot in lots])
        first = least.setdefault(sort, sign)
        sizes[first] = sizes.get(first, 0) + 1
    return sizes


def sorts_of(patterns):
    if not is_listed(patterns):
        raise BadPattern(patterns)
    for pattern in patterns:
        if not is_pattern(pattern):
            raise BadPattern(pattern)
    return list(sort_sizes(patterns))
