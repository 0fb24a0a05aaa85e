"""Made-up rows of given pieces, and scripts that are just such a row."""

from everypipe.patterntexts import pattern_text, read_pattern
from everypipe.shelltrees import quoted
from helper import Maker

PATTERNS = [read_pattern(text) for text in ["a", "b", "ab", "a*", "[]", "[]a", "()", "a|b", "(a|b)", "[ab]", "x?", ".", "b+", "a.b"]]
LINES = ["", "a", "b", "ab", "b a", "x", "ba c", "a a", " ", "axb"]
A, B = ("grep", read_pattern("a")), ("grep", read_pattern("b"))
CAT, SORT, UNIQ, WC = ("cat",), ("sort",), ("uniq",), ("wc",)
ALL = ("cat", "grep", "grep", "grep", "sort", "uniq", "head", "tail", "cut", "wc")


def head(k):
    return ("head", k)


def tail(k):
    return ("tail", k)


def cut(k):
    return ("cut", k)


class RowMaker(Maker):
    def row_piece(self, words=ALL, patterns=PATTERNS, most=3):
        word = self.pick(words)
        if word == "grep":
            return ("grep", self.pick(patterns))
        if word in ("head", "tail"):
            return (word, self.random.randint(0, most))
        return ("cut", self.pick([1, 2])) if word == "cut" else (word,)

    def row(self, most=8, words=ALL, patterns=PATTERNS):
        return self.some(lambda: self.row_piece(words, patterns), 1, most)

    def lines(self, most=7):
        return self.some(lambda: self.pick(LINES), 0, most)


def row_script(row):
    """The script that is just a row; of one piece a run."""
    runs = []
    for piece in row:
        strings = [piece[0]] + [pattern_text(part) if piece[0] == "grep" else str(part) for part in piece[1:]]
        runs.append(("run", [], [quoted(text) for text in strings], []))
    return [(("row", runs) if len(runs) > 1 else runs[0], False)]
