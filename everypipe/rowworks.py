"""Rows of given pieces at work over many lists of lines."""

from everypipe.givens import put_lines
from everypipe.matching import has_stretch, moves_of


class Sieve:
    """Which lines a grep keeps, each line looked at once."""

    def __init__(self, pattern):
        self.moves = moves_of(pattern)
        self.kept = {}

    def keeps(self, line):
        if line not in self.kept:
            self.kept[line] = has_stretch(self.moves, line)
        return self.kept[line]


class RowWork:
    """A row of pieces, each grep with its sieve."""

    def __init__(self, row):
        self.row = row
        self.sieves = [Sieve(piece[1]) if piece[0] == "grep" else None for piece in row]

    def told(self, lines):
        for piece, sieve in zip(self.row, self.sieves):
            if sieve is None:
                lines = put_lines(piece, {0: lines})
            else:
                lines = [line for line in lines if sieve.keeps(line)]
        return lines
