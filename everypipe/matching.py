"""Lines matched: a right pattern becomes places with moves between them, gone through all at once.

Place 0 is the beginning, place 1 the end. Free moves take no sign, others one of a string.
"""

from everypipe.kinds import SIGNS


def moves_of(pattern):
    """The pair (free moves, moves by a sign) of a pattern, each a list, by places."""
    free = [[], []]
    by_sign = [[], []]
    waiting = [(pattern, 0, 1)]
    while len(waiting) > 0:
        part, begin, end = waiting.pop()
        word = part[0]
        if word == "empty":
            free[begin].append(end)
        elif word in ("any", "of"):
            by_sign[begin].append((SIGNS if word == "any" else part[1], end))
        elif word == "either":
            waiting.extend([(part[1], begin, end), (part[2], begin, end)])
        elif word in ("row", "often"):
            middle = len(free)
            free.append([])
            by_sign.append([])
            if word == "row":
                waiting.extend([(part[1], begin, middle), (part[2], middle, end)])
            else:
                free[begin].append(middle)
                free[middle].append(end)
                waiting.append((part[1], middle, middle))
    return (free, by_sign)


def spread(moves, places):
    """The dict from all places that free moves lead to from some."""
    found = {place: True for place in places}
    waiting = list(places)
    while len(waiting) > 0:
        place = waiting.pop()
        for other in moves[0][place]:
            if other not in found:
                found[other] = True
                waiting.append(other)
    return found


def moved(moves, places, sign):
    """The places behind a sign, free moves gone too."""
    ends = {end: True for place in places for signs, end in moves[1][place] if sign in signs}
    return spread(moves, list(ends))


def matches_whole(moves, line):
    places = spread(moves, [0])
    for sign in line:
        places = moved(moves, places, sign)
    return 1 in places


def greatest_end(moves, line, begin):
    """The greatest end of a stretch that matches from here, None if there is none."""
    places = spread(moves, [0])
    best = begin if 1 in places else None
    for at in range(begin, len(line)):
        places = moved(moves, places, line[at])
        if 1 in places:
            best = at + 1
        if len(places) == 0:
            break
    return best


def first_stretch(moves, line):
    for begin in range(len(line) + 1):
        end = greatest_end(moves, line, begin)
        if end is not None:
            return (begin, end)
    return None


def has_stretch(moves, line):
    """Whether some stretch of a line matches."""
    places = spread(moves, [0])
    for sign in line:
        if 1 in places:
            return True
        places = spread(moves, [0, *moved(moves, places, sign)])
    return 1 in places
