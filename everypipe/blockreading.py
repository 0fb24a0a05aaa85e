"""The reader's frames of all commands but runs; each gets its lists by given_list."""

from everypipe.kinds import FIGURES, LETTERS
from everypipe.readingframes import AGAIN, ON, WRONG, KeptFrame, RemarkFrame, is_word_sign
from everypipe.runreading import TurnFrame
from everypipe.wordreading import WordFrame


class TurnsFrame:
    """What all commands with turns behind them share: the turns, and a figure that must begin one."""

    def __init__(self):
        self.turns = []
        self.figure = None

    def take_turns(self, reader, sign):
        """A sign behind the command itself; command() is what is done then."""
        if sign in ("<", ">"):
            reader.push(TurnFrame(self.figure))
            self.figure = None
            return AGAIN
        if self.figure is not None:
            return WRONG
        if sign == " ":
            return ON
        if sign in FIGURES:
            self.figure = int(sign)
            return ON
        reader.done(self.command())
        return AGAIN

    def hint_of_turns(self):
        return "" if self.figure is None else ">a"


class GroupFrame(TurnsFrame):
    """A group or a sub, behind its bracket."""

    def __init__(self, word):
        TurnsFrame.__init__(self)
        self.word = word
        self.inside = None

    def take(self, reader, sign):
        if self.inside is None:
            reader.begin_list(("}" if self.word == "group" else ")",))
            return AGAIN
        return self.take_turns(reader, sign)

    def given_list(self, reader, pairs, closer):
        self.inside = pairs

    def given(self, reader, turn):
        self.turns.append(turn)

    def command(self):
        return (self.word, self.inside, self.turns)

    def hint(self):
        return "a" if self.inside is None else self.hint_of_turns()


class IfFrame(TurnsFrame):
    """An if or a while: its lists one behind another, each with the kept words that may end it."""

    def __init__(self, word):
        TurnsFrame.__init__(self)
        self.word = word
        self.lists = []
        self.closer = ""

    def take(self, reader, sign):
        if self.closer == "end":
            return self.take_turns(reader, sign)
        reader.begin_list(self.next_closers())
        return AGAIN

    def next_closers(self):
        if self.word == "while":
            return ("end",) if self.closer == "do" else ("do",)
        if self.closer == "":
            return ("then",)
        return ("else", "end") if self.closer == "then" else ("end",)

    def given_list(self, reader, pairs, closer):
        self.lists.append(pairs)
        self.closer = closer

    def given(self, reader, turn):
        self.turns.append(turn)

    def command(self):
        if self.word == "while":
            return ("while", self.lists[0], self.lists[1], self.turns)
        third = self.lists[2] if len(self.lists) > 2 else None
        return ("if", self.lists[0], self.lists[1], third, self.turns)

    def hint(self):
        return self.hint_of_turns() if self.closer == "end" else "a"


class ForFrame(TurnsFrame):
    """stage is "first", "name", "in", "words", "do", "list", then "turns"."""

    def __init__(self):
        TurnsFrame.__init__(self)
        self.stage = "first"
        self.name = ""
        self.frees = []
        self.inside = []

    def take(self, reader, sign):
        if self.stage == "turns":
            return self.take_turns(reader, sign)
        if self.stage == "list":
            reader.begin_list(("end",))
            return AGAIN
        if self.stage == "words":
            return self.take_words(reader, sign)
        if self.stage == "first" and sign == " ":
            return ON
        if is_next_of_name(self.name, sign):
            self.stage = "name"
            self.name = self.name + sign
            return ON
        if self.stage == "first" or sign != " ":
            return WRONG
        self.stage = "in"
        reader.push(KeptFrame("in", False))
        return AGAIN

    def take_words(self, reader, sign):
        if is_word_sign(sign):
            reader.push(WordFrame(True))
            return AGAIN
        if sign in (";", "\n"):
            self.stage = "do"
            reader.push(KeptFrame("do", True))
        elif sign == "#":
            reader.push(RemarkFrame())
        elif sign != " ":
            return WRONG
        return ON

    def given(self, reader, thing):
        if self.stage == "in":
            self.stage = "words"
        elif self.stage == "do":
            self.stage = "list"
        elif self.stage == "words":
            self.frees.append(thing)
        else:
            self.turns.append(thing)

    def given_list(self, reader, pairs, closer):
        self.inside = pairs
        self.stage = "turns"

    def command(self):
        return ("for", self.name, self.frees, self.inside, self.turns)

    def hint(self):
        if self.stage == "turns":
            return self.hint_of_turns()
        hints = {"name": " in;", "words": ";"}
        return hints.get(self.stage, "a")


class CaseFrame(TurnsFrame):
    """stage is "word", "behind word", "when", "choice", "behind choice", "do", "list", then "turns"."""

    def __init__(self):
        TurnsFrame.__init__(self)
        self.stage = "word"
        self.word = []
        self.cases = []
        self.choices = []

    def take(self, reader, sign):
        if self.stage == "turns":
            return self.take_turns(reader, sign)
        if self.stage == "list":
            reader.begin_list(("when", "end"))
            return AGAIN
        if sign == " ":
            return ON
        if self.stage in ("word", "choice"):
            if not is_word_sign(sign):
                return WRONG
            self.stage = "behind " + self.stage
            reader.push(WordFrame(False))
            return AGAIN
        if sign == "|" and self.stage == "behind choice":
            self.stage = "choice"
        elif sign in (";", "\n"):
            self.stage = "when" if self.stage == "behind word" else "do"
            reader.push(KeptFrame(self.stage, True))
        elif sign == "#":
            reader.push(RemarkFrame())
        else:
            return WRONG
        return ON

    def given(self, reader, thing):
        if self.stage == "behind word":
            self.word = thing
        elif self.stage == "when":
            self.stage = "choice"
        elif self.stage == "behind choice":
            self.choices.append(thing)
        elif self.stage == "do":
            self.stage = "list"
        else:
            self.turns.append(thing)

    def given_list(self, reader, pairs, closer):
        self.cases.append((self.choices, pairs))
        self.choices = []
        self.stage = "choice" if closer == "when" else "turns"

    def command(self):
        return ("case", self.word, self.cases, self.turns)

    def hint(self):
        if self.stage == "turns":
            return self.hint_of_turns()
        return ";" if self.stage in ("behind word", "behind choice") else "a"


class DefFrame:
    """stage is "first", "name", then "behind" the name."""

    def __init__(self):
        self.stage = "first"
        self.name = ""

    def take(self, reader, sign):
        if sign == "{" and self.name != "":
            reader.begin_list(("}",))
            return ON
        if self.stage != "behind" and is_next_of_name(self.name, sign):
            self.stage = "name"
            self.name = self.name + sign
            return ON
        if sign != " ":
            return WRONG
        if self.name != "":
            self.stage = "behind"
        return ON

    def given_list(self, reader, pairs, closer):
        reader.done(("def", self.name, pairs))

    def hint(self):
        return "a" if self.name == "" else "{"


def is_next_of_name(name, sign):
    """Whether a name, perhaps not yet begun, can go on with a sign."""
    if name == "":
        return sign in LETTERS
    return len(name) < 8 and sign in LETTERS + FIGURES
