"""The reader's frames of words and of what "$" begins in them."""

from everypipe.kinds import FIGURES, LETTERS
from everypipe.readingframes import AGAIN, END, ON, WRONG, is_word_sign
from everypipe.sumreading import SumFrame
from everypipe.wordforms import KEPT, PLAIN, is_bare_held, is_held_piece

FIGURES_FROM_ONE = "123456789"


def joined_pieces(pieces):
    """The pieces without empty held texts beside pieces with is_held True."""
    kept = []
    for at, piece in enumerate(pieces):
        beside = pieces[max(0, at - 1):at] + pieces[at + 1:at + 2]
        if not is_bare_held(piece) or not any([is_held_piece(other) for other in beside]):
            kept.append(piece)
    return kept


class WordFrame:
    """A word; can_be_all if it may be all arguments. quote is the quote that is open, "" if none is.

    is_begun as long as a piece that "$" begins is not whole: then the word has more than its pieces.
    """

    def __init__(self, can_be_all):
        self.can_be_all = can_be_all
        self.pieces = []
        self.quote = ""
        self.is_escaped = False
        self.is_begun = False

    def take(self, reader, sign):
        if self.is_escaped:
            return self.take_escaped(sign)
        if self.quote != "":
            return self.take_quoted(reader, sign)
        return self.take_open(reader, sign)

    def take_escaped(self, sign):
        if sign in ("\n", END) or (self.quote != "" and sign not in "\"\\$"):
            return WRONG
        self.is_escaped = False
        self.put_text("held", sign)
        return ON

    def take_quoted(self, reader, sign):
        if sign == END:
            return WRONG
        if sign == self.quote:
            self.quote = ""
        elif self.quote == "\"" and sign == "\\":
            self.is_escaped = True
        elif self.quote == "\"" and sign == "$":
            self.begin(reader, DollarFrame(True, False))
        else:
            self.put_text("held", sign)
        return ON

    def take_open(self, reader, sign):
        if self.pieces == [("all",)] and is_word_sign(sign):
            return WRONG
        if sign in PLAIN:
            self.put_text("plain", sign)
        elif sign in "\"'":
            self.quote = sign
            self.put_text("held", "")
        elif sign == "\\":
            self.is_escaped = True
        elif sign == "$":
            self.begin(reader, DollarFrame(False, self.can_be_all and len(self.pieces) == 0))
        else:
            reader.done(joined_pieces(self.pieces))
            return AGAIN
        return ON

    def put_text(self, word, text):
        if len(self.pieces) > 0 and self.pieces[-1][0] == word:
            text = self.pieces.pop()[1] + text
        self.pieces.append((word, text))

    def begin(self, reader, frame):
        self.is_begun = True
        reader.push(frame)

    def given(self, reader, piece):
        self.is_begun = False
        self.pieces.append(piece)

    def hint(self):
        if self.is_escaped:
            return "\""
        if self.quote != "":
            return self.quote
        is_kept = len(self.pieces) == 1 and self.pieces[0][0] == "plain" and self.pieces[0][1] in KEPT
        return "a" if is_kept and not self.is_begun else ""


class DollarFrame:
    """What stands behind a "$"; stage is "first", "name", or "round" behind a round bracket."""

    def __init__(self, is_held, can_be_all):
        self.is_held = is_held
        self.can_be_all = can_be_all
        self.stage = "first"
        self.name = ""

    def take(self, reader, sign):
        if self.stage == "first":
            return self.take_first(reader, sign)
        if self.stage == "name":
            return self.take_name(reader, sign)
        if sign == "(":
            reader.push(SumFrame())
            return ON
        reader.begin_list((")",))
        return AGAIN

    def take_first(self, reader, sign):
        if sign in LETTERS:
            self.stage = "name"
            self.name = sign
        elif sign in FIGURES_FROM_ONE or sign in "?#":
            reader.done(("value", sign, self.is_held))
        elif sign == "@" and self.can_be_all:
            reader.done(("all",))
        elif sign == "{":
            reader.swap(BraceFrame(self.is_held))
        elif sign == "(":
            self.stage = "round"
        else:
            return WRONG
        return ON

    def take_name(self, reader, sign):
        if sign in LETTERS + FIGURES:
            self.name = self.name + sign
            return WRONG if len(self.name) > 8 else ON
        reader.done(("value", self.name, self.is_held))
        return AGAIN

    def given(self, reader, total):
        reader.done(("sum", total, self.is_held))

    def given_list(self, reader, pairs, closer):
        reader.done(("out", pairs, self.is_held))

    def hint(self):
        if self.stage == "name":
            return ""
        return "1" if self.stage == "first" else "a"


class BraceFrame:
    """What stands behind "${": stage is "first", "size", "name", "behind", "colon", then "word"."""

    def __init__(self, is_held):
        self.is_held = is_held
        self.is_size = False
        self.stage = "first"
        self.name = ""
        self.other = []

    def take(self, reader, sign):
        if self.stage in ("first", "size"):
            return self.take_first(sign)
        if self.stage == "name" and sign in LETTERS + FIGURES:
            self.name = self.name + sign
            return WRONG if len(self.name) > 8 else ON
        if self.stage == "colon":
            if sign != "-":
                return WRONG
            self.stage = "word"
            reader.push(WordFrame(False))
            return ON
        if sign == "}":
            reader.done(self.made())
            return ON
        if sign == ":" and self.stage in ("name", "behind") and not self.is_size:
            self.stage = "colon"
            return ON
        return WRONG

    def take_first(self, sign):
        if sign in LETTERS:
            self.stage = "name"
            self.name = sign
        elif sign in FIGURES_FROM_ONE:
            self.stage = "behind"
            self.name = sign
        elif sign == "#" and self.stage == "first":
            self.is_size = True
            self.stage = "size"
        else:
            return WRONG
        return ON

    def made(self):
        if self.stage == "word":
            return ("else", self.name, self.other, self.is_held)
        return ("size" if self.is_size else "value", self.name, self.is_held)

    def given(self, reader, word):
        self.other = word

    def hint(self):
        if self.stage in ("first", "size"):
            return "a"
        return "-" if self.stage == "colon" else "}"
