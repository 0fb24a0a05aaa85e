"""Two patterns: lines that tell them apart, papers by which they are alike, and how much one matches."""

from everypipe.errors import BadMany, BadPattern
from everypipe.kinds import is_listed, is_listed_of, is_number
from everypipe.neatness import behind, is_ending, neat_of
from everypipe.patterns import is_pattern, sort_sizes, sorts_of
from everypipe.patterntexts import pattern_text
from everypipe.walks import Walk, least_such


def check_pair(one, other):
    if not is_pattern(one):
        raise BadPattern(one)
    if not is_pattern(other):
        raise BadPattern(other)


def parting_line(one, other):
    check_pair(one, other)
    return least_such([one, other], ((True, False), (False, True)))


def outside_line(one, other):
    check_pair(one, other)
    return least_such([one, other], ((True, False),))


def common_line(one, other):
    check_pair(one, other)
    return least_such([one, other], ((True, True),))


def least_line(pattern):
    if not is_pattern(pattern):
        raise BadPattern(pattern)
    return least_such([pattern], ((True,),))


def count_matches(pattern, many):
    if not is_pattern(pattern):
        raise BadPattern(pattern)
    if not is_number(many):
        raise BadMany(many)
    sizes = list(sort_sizes([pattern]).values())
    walk = Walk([pattern])
    behinds = {}
    counts = {0: 1}
    for _ in range(many):
        nexts = {}
        for number, count in counts.items():
            if number not in behinds:
                behinds[number] = walk.behind(number)
            for other, size in zip(behinds[number], sizes):
                nexts[other] = nexts.get(other, 0) + count * size
        counts = nexts
    return sum([count for number, count in counts.items() if walk.endings(number)[0]])


class Behinds:
    """Neat patterns and what is behind some signs in them; each is told once by its text."""

    def __init__(self, signs):
        self.signs = signs
        self.found = {}

    def of(self, pattern):
        """The list of the neat patterns behind the signs, in their order."""
        text = pattern_text(pattern)
        if text not in self.found:
            neat_one = neat_of(pattern)
            self.found[text] = [behind(neat_one, sign) for sign in self.signs]
        return self.found[text]

    def both(self, one, other):
        return list(zip(self.of(one), self.of(other)))


def pair_key(one, other):
    return (pattern_text(one), pattern_text(other))


def alike_paper(one, other):
    if parting_line(one, other) is not None:
        return None
    behinds = Behinds(sorts_of([one, other]))
    paper = [(neat_of(one), neat_of(other))]
    found = {pair_key(paper[0][0], paper[0][1]): True}
    at = 0
    while at < len(paper):
        one, other = paper[at]
        nexts = behinds.both(one, other)
        for former, latter in nexts:
            key = pair_key(former, latter)
            if key not in found:
                found[key] = True
                paper.append((former, latter))
        at += 1
    return paper


def is_pair_of_patterns(thing):
    return is_listed_of(thing, 2) and is_pattern(thing[0]) and is_pattern(thing[1])


def is_alike_paper(one, other, thing):
    check_pair(one, other)
    if not is_listed(thing) or not all([is_pair_of_patterns(pair) for pair in thing]):
        return False
    found = {pair_key(pair[0], pair[1]): True for pair in thing}
    if pair_key(neat_of(one), neat_of(other)) not in found:
        return False
    behinds = Behinds(sorts_of([one, other]))
    for former, latter in thing:
        if is_ending(former) != is_ending(latter):
            return False
        if not all([pair_key(a, b) in found for a, b in behinds.both(former, latter)]):
            return False
    return True
