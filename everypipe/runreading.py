"""The reader's frames of runs and of turns."""

from everypipe.kinds import FIGURES
from everypipe.readingframes import AGAIN, ON, WRONG, is_word_sign
from everypipe.wordforms import is_kept_word, set_name
from everypipe.wordreading import WordFrame


class TurnFrame:
    """A turn, from its "<" or ">" on; figure is its n, None if none stood ahead.

    stage is "first", "in" behind "<", "out" behind ">", "word", "behind" once its word is begun,
    "to" behind ">&", or "ended".
    """

    def __init__(self, figure):
        self.figure = figure
        self.stage = "first"
        self.way = ""
        self.what = None

    def take(self, reader, sign):
        if self.stage == "first":
            self.way = sign
            self.stage = "in" if sign == "<" else "out"
            return ON
        if self.stage in ("in", "out") and self.take_second(sign):
            return ON
        if self.stage == "to":
            return self.take_to(sign)
        if self.stage == "ended":
            if is_word_sign(sign):
                return WRONG
            reader.done(self.turn())
            return AGAIN
        self.stage = "word"
        if sign == " ":
            return ON
        if not is_word_sign(sign):
            return WRONG
        self.stage = "behind"
        reader.push(WordFrame(False))
        return AGAIN

    def take_second(self, sign):
        """Whether a sign right behind the first one is of the turn's way."""
        if self.stage == "in" and sign == ":":
            self.way = "<:"
            self.stage = "word"
        elif self.stage == "out" and sign == ">":
            self.way = ">>"
            self.stage = "word"
        elif self.stage == "out" and sign == "&":
            self.stage = "to"
        else:
            return False
        return True

    def take_to(self, sign):
        if sign == "-":
            self.way = "-"
        elif sign in FIGURES:
            self.way = "&"
            self.what = int(sign)
        else:
            return WRONG
        self.stage = "ended"
        return ON

    def turn(self):
        n = self.figure
        if n is None:
            n = 0 if self.way in ("<", "<:") else 1
        return (n, self.way, self.what)

    def given(self, reader, word):
        self.what = word
        reader.done(self.turn())

    def hint(self):
        if self.stage in ("ended", "behind"):
            return ""
        return "1" if self.stage == "to" else "a"


class RunFrame:
    """A run. A word that came is kept till the next sign tells whether it was a turn's n, or kept."""

    def __init__(self):
        self.sets = []
        self.frees = []
        self.turns = []
        self.fresh = None

    def take(self, reader, sign):
        if self.fresh is not None:
            word = self.fresh
            self.fresh = None
            if sign in ("<", ">") and is_figure_word(word):
                reader.push(TurnFrame(int(word[0][1])))
                return AGAIN
            if len(self.sets) + len(self.frees) == 0 and is_kept_word(word):
                reader.leave()
                return WRONG if len(self.turns) > 0 else reader.keep(word[0][1])
            self.put_word(word)
        if sign == " ":
            return ON
        if is_word_sign(sign):
            reader.push(WordFrame(True))
        elif sign in ("<", ">"):
            reader.push(TurnFrame(None))
        else:
            reader.done(("run", self.sets, self.frees, self.turns))
        return AGAIN

    def put_word(self, word):
        name = ""
        if len(self.frees) == 0 and word[0][0] == "plain":
            name = set_name(word[0][1])
        if name == "":
            self.frees.append(word)
            return
        text = word[0][1][len(name) + 1:]
        beginning = [("plain", text)] if text != "" else []
        self.sets.append((name, beginning + word[1:]))

    def given(self, reader, thing):
        if isinstance(thing, tuple):
            self.turns.append(thing)
        else:
            self.fresh = thing

    def hint(self):
        return ""


def is_figure_word(word):
    return len(word) == 1 and word[0][0] == "plain" and len(word[0][1]) == 1 and word[0][1] in FIGURES
