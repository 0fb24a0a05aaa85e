"""Single pieces of a program's text, read sign by sign: each tells whether some text goes on with a sign."""

from everypipe.kinds import FIGURES, LINE_SIGNS, SIGNS, is_string_of
from everypipe.patterntexts import PatternReader, pattern_fault
from everypipe.programs import COUNTER_NAMES, LINE_NAMES

MOST_FIGURES = 9


def are_figures(text):
    """Whether a text is some figures without a 0 ahead."""
    return text != "" and is_string_of(text, FIGURES) and (text == "0" or text[0] != "0")


def are_figures_to(text, most):
    return are_figures(text) and int(text) <= most


def begins_number(text):
    return are_figures(text) and len(text) <= MOST_FIGURES


def begins_integer(text):
    if text.startswith("-"):
        return text == "-" or (text != "-0" and begins_number(text[1:]))
    return begins_number(text)


def begins(kind, text):
    """Whether a text, not empty, is the beginning of a piece of this kind."""
    if kind == "descriptor":
        return are_figures_to(text, 31)
    if kind == "status":
        return are_figures_to(text, 255)
    if kind == "at":
        return begins_number(text)
    if kind == "place":
        return begins_number(text) and text != "0"
    if kind == "more":
        return begins("counter", text) or begins_integer(text)
    if kind == "else":
        return "else".startswith(text)
    names = {"line": LINE_NAMES, "counter": COUNTER_NAMES, "part": LINE_NAMES + COUNTER_NAMES}
    return len(text) == 1 and text in names[kind]


class PlainPiece:
    """A piece that is no text in quotes."""

    def __init__(self, kind):
        self.kind = kind
        self.text = ""

    def is_right(self, sign):
        self.text = self.text + sign
        return begins(self.kind, self.text)

    def is_whole(self):
        return self.text == "else" if self.kind == "else" else self.text not in ("", "-")

    def told_thing(self):
        if self.kind == "part":
            return ("line" if self.text in LINE_NAMES else "count", self.text)
        return int(self.text) if is_string_of(self.text[-1], FIGURES) else self.text


class WordPiece:
    """The word that a row begins with: one of some."""

    def __init__(self, words):
        self.words = words
        self.text = ""

    def is_right(self, sign):
        self.text = self.text + sign
        return any([word.startswith(self.text) for word in self.words])

    def is_whole(self):
        return self.text in self.words

    def told_thing(self):
        return self.text


class QuotedPiece:
    """A text in quotes; reader reads it if it is a pattern's, else it is None."""

    def __init__(self, reader):
        self.reader = reader
        self.text = ""
        self.is_begun = False
        self.is_escaped = False
        self.is_ended = False

    def is_right(self, sign):
        if not self.is_begun:
            self.is_begun = True
            return sign == "'"
        if self.is_ended or sign not in SIGNS:
            return False
        if self.is_escaped:
            self.is_escaped = False
            return sign in ("'", "\\") and self.is_put(sign)
        if sign == "'":
            self.is_ended = True
            return self.reader is None or self.reader.can_end()
        if sign == "\\":
            self.is_escaped = True
            return self.can_put("'") or self.can_put("\\")
        return self.is_put(sign)

    def is_put(self, sign):
        self.text = self.text + sign
        if self.reader is None:
            return len(self.text) <= LINE_SIGNS
        return self.reader.is_right(sign)

    def can_put(self, sign):
        """Whether is_put would tell so; nothing is changed."""
        if self.reader is None:
            return len(self.text) < LINE_SIGNS
        return pattern_fault(self.text + sign) in (None, len(self.text) + 1)

    def is_whole(self):
        return self.is_ended

    def told_thing(self):
        return ("text", self.text) if self.reader is None else self.text


def begun_piece(kind, sign):
    """A new piece of this kind that is to take this sign first."""
    if kind == "pattern":
        return QuotedPiece(PatternReader())
    if kind == "part" and sign == "'":
        return QuotedPiece(None)
    return PlainPiece(kind)
