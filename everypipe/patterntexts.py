"""Patterns as texts: the first wrong sign, the pattern of a text, a text of a pattern."""

from everypipe.errors import BadPattern, BadText
from everypipe.kinds import SIGNS
from everypipe.patterns import is_pattern

SPECIAL = ".[]*+?|()\\-!"
ESCAPED_IN_ITEMS = "]\\-!"


class LotReader:
    """The items behind a "[".

    stage is "begin" right behind it, "item" where one may begin, "behind" one sign, that may
    begin a range, "range" behind the range's "-".
    """

    def __init__(self):
        self.stage = "begin"
        self.is_escaped = False
        self.is_others = False
        self.first = ""
        self.found = {}

    def is_right(self, sign):
        """Whether some text goes on with a sign, which is not the "]" that ends the items."""
        if self.is_escaped:
            self.is_escaped = False
            return sign in SPECIAL and self.is_put(sign)
        if self.stage == "begin" and sign == "!":
            self.is_others = True
            self.stage = "item"
            return True
        if sign == "\\":
            self.is_escaped = True
            return self.stage != "range" or self.first <= max(SPECIAL)
        if sign == "-" and self.stage == "behind":
            self.stage = "range"
            return True
        return sign not in ESCAPED_IN_ITEMS and self.is_put(sign)

    def is_put(self, sign):
        """Put a sign, an item's only one or a range's last; whether it can be that."""
        if self.stage == "range":
            if sign < self.first:
                return False
            for other in SIGNS[SIGNS.index(self.first):SIGNS.index(sign) + 1]:
                self.found[other] = True
            self.stage = "item"
            return True
        self.found[sign] = True
        self.first = sign
        self.stage = "behind"
        return True

    def can_end(self):
        return self.stage != "range" and not self.is_escaped

    def result(self):
        lot = "".join([sign for sign in SIGNS if (sign in self.found) != self.is_others])
        return lot_pattern(lot)


def lot_pattern(lot):
    """The pattern of all signs of a string, ascending: none of none, any of all."""
    if lot == "":
        return ("none",)
    return ("any",) if lot == SIGNS else ("of", lot)


class GroupReader:
    """What is read of one text in round brackets, or of the whole: eithers, rows, the last piece."""

    def __init__(self):
        self.either = None
        self.row = None
        self.piece = None

    def put(self, piece):
        self.join_piece()
        self.piece = piece

    def join_piece(self):
        if self.piece is not None:
            self.row = self.piece if self.row is None else ("row", self.row, self.piece)
            self.piece = None

    def join_row(self):
        self.join_piece()
        self.either = self.row if self.either is None else ("either", self.either, self.row)
        self.row = None


class PatternReader:
    """A pattern's text read sign by sign; the groups that are open stand in a list."""

    def __init__(self):
        self.groups = [GroupReader()]
        self.lot = None
        self.is_escaped = False
        self.is_empty_group = False

    def is_right(self, sign):
        """Whether some text goes on with this sign."""
        group = self.groups[-1]
        is_behind_round = self.is_empty_group
        self.is_empty_group = False
        if self.lot is not None:
            return self.is_right_in_lot(sign)
        if self.is_escaped:
            self.is_escaped = False
            group.put(("of", sign))
            return sign in SPECIAL
        if sign == ")" and is_behind_round:
            self.groups.pop()
            self.groups[-1].put(("empty",))
        elif sign in "*+?|)":
            return group.piece is not None and self.is_right_behind(sign)
        elif sign == "]":
            return False
        else:
            self.begin(sign)
        return True

    def is_right_in_lot(self, sign):
        if sign == "]" and self.lot.can_end():
            self.groups[-1].put(self.lot.result())
            self.lot = None
            return True
        return self.lot.is_right(sign)

    def is_right_behind(self, sign):
        """As is_right, of a sign that stands behind a piece."""
        group = self.groups[-1]
        if sign == "|":
            group.join_row()
        elif sign == ")":
            if len(self.groups) == 1:
                return False
            self.groups.pop()
            group.join_row()
            self.groups[-1].put(group.either)
        elif sign == "*":
            group.piece = ("often", group.piece)
        elif sign == "+":
            group.piece = ("row", group.piece, ("often", group.piece))
        else:
            group.piece = ("either", group.piece, ("empty",))
        return True

    def begin(self, sign):
        """A sign that begins a piece."""
        if sign == "\\":
            self.is_escaped = True
        elif sign == "[":
            self.lot = LotReader()
        elif sign == "(":
            self.groups.append(GroupReader())
            self.is_empty_group = True
        elif sign == ".":
            self.groups[-1].put(("any",))
        else:
            self.groups[-1].put(("of", sign))

    def can_end(self):
        is_open = self.lot is not None or self.is_escaped or len(self.groups) > 1
        return not is_open and self.groups[0].piece is not None

    def result(self):
        self.groups[0].join_row()
        return self.groups[0].either


def read_through(text):
    """The pair of the pattern of a string, or None, and of its fault, or None."""
    reader = PatternReader()
    for at, sign in enumerate(text):
        if sign not in SIGNS or not reader.is_right(sign):
            return (None, at)
    if not reader.can_end():
        return (None, len(text))
    return (reader.result(), None)


def pattern_fault(text):
    if not isinstance(text, str):
        return -1
    return read_through(text)[1]


def read_pattern(text):
    if not isinstance(text, str):
        raise BadText(-1)
    pattern, fault = read_through(text)
    if fault is not None:
        raise BadText(fault)
    return pattern


def sign_text(sign):
    return "\\" + sign if sign in SPECIAL else sign


def lot_text(lot):
    if len(lot) == 1:
        return sign_text(lot)
    return "[" + "".join(["\\" + sign if sign in ESCAPED_IN_ITEMS else sign for sign in lot]) + "]"


def text_parts(level, pattern):
    """A pattern's text in parts: strings, and pairs (level, pattern).

    A pattern stands at the level of eithers, 0, of rows, 1, or of pieces, 2.
    """
    word = pattern[0]
    texts = {"none": "[]", "empty": "()", "any": "."}
    if word in texts:
        return [texts[word]]
    if word == "of":
        return [lot_text(pattern[1])]
    if word == "often":
        return [(2, pattern[1]), "*"]
    own = 0 if word == "either" else 1
    parts = [(own, pattern[1]), "|" if word == "either" else "", (own + 1, pattern[2])]
    return parts if level <= own else ["(", *parts, ")"]


def pattern_text(pattern):
    if not is_pattern(pattern):
        raise BadPattern(pattern)
    waiting = [(0, pattern)]
    texts = []
    while len(waiting) > 0:
        part = waiting.pop()
        if isinstance(part, str):
            texts.append(part)
        else:
            waiting.extend(text_parts(part[0], part[1])[::-1])
    return "".join(texts)
