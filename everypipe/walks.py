"""Walks of several patterns at once along all lines, a least sign of each sort standing for the sort.

A stand is a list with, for each pattern, the places where it is (everypipe.matching tells of them);
stands have numbers, from 0 on, in the order in which their least lines ascend.
"""

from everypipe.matching import moved, moves_of, spread
from everypipe.patterns import sorts_of


def told_places(moves, places):
    """The places that matter of some: the end, and those with moves by a sign."""
    return tuple([place for place in sorted(places) if place == 1 or len(moves[1][place]) > 0])


class Walk:
    def __init__(self, patterns):
        self.signs = sorts_of(patterns)
        self.moves = [moves_of(pattern) for pattern in patterns]
        self.numbers = {}
        self.stands = []
        self.least_lines = []
        self.put(tuple([told_places(moves, spread(moves, [0])) for moves in self.moves]), "")

    def put(self, stand, line):
        """The number of a stand, a new one if it was not met before."""
        if stand not in self.numbers:
            self.numbers[stand] = len(self.stands)
            self.stands.append(stand)
            self.least_lines.append(line)
        return self.numbers[stand]

    def endings(self, number):
        """Of each pattern whether it matches the lines that lead to a stand."""
        return tuple([1 in places for places in self.stands[number]])

    def behind(self, number):
        """The numbers of the stands behind all signs, in their order."""
        found = []
        for sign in self.signs:
            stand = []
            for moves, places in zip(self.moves, self.stands[number]):
                stand.append(told_places(moves, moved(moves, places, sign)))
            found.append(self.put(tuple(stand), self.least_lines[number] + sign))
        return found


def least_such(patterns, wanted):
    """The least line by which the patterns end as one of wanted says, None if there is none."""
    walk = Walk(patterns)
    number = 0
    while number < len(walk.stands):
        if walk.endings(number) in wanted:
            return walk.least_lines[number]
        walk.behind(number)
        number += 1
    return None
