"""The reader's frame of a list: its rows, its and, or, not, its ends; and of the whole text."""

from everypipe.blockreading import CaseFrame, DefFrame, ForFrame, GroupFrame, IfFrame
from everypipe.readingframes import AGAIN, END, ON, WRONG, RemarkFrame, is_word_sign
from everypipe.runreading import RunFrame


class ListFrame:
    """A list up to one of its closers: a sign, or kept words; END closes the script itself.

    stage is "first" where a command, or the list's end, may stand; "next" where a command
    must, behind line feeds too; "not" where one must, behind a "!"; "behind" a command; "back"
    behind one "&"; "bar" behind one "|".
    """

    def __init__(self, closers):
        self.closers = closers
        self.stage = "first"
        self.pairs = []
        self.chain = None
        self.commands = []
        self.is_not = False
        self.is_begun = False

    def take(self, reader, sign):
        if self.stage == "back":
            if sign == "&":
                self.go_on("and")
                return ON
            self.end_pair(True)
        if self.stage == "bar":
            if sign == "|":
                self.go_on("or")
                return ON
            self.stage = "next"
        if sign == " ":
            return ON
        if self.stage == "behind":
            return self.take_behind(reader, sign)
        return self.take_first(reader, sign)

    def take_behind(self, reader, sign):
        if sign in (";", "\n"):
            self.end_pair(False)
        elif sign == "&":
            self.stage = "back"
        elif sign == "|":
            self.stage = "bar"
        elif sign == "#":
            reader.push(RemarkFrame())
        elif sign in self.closers:
            self.end_pair(False)
            reader.end_list(self.pairs, sign)
        else:
            return WRONG
        return ON

    def take_first(self, reader, sign):
        if sign in self.closers and self.can_end():
            reader.end_list(self.pairs, sign)
            return ON
        if sign in ("\n", "#") and self.stage != "not":
            if sign == "#":
                reader.push(RemarkFrame())
            return ON
        if sign == "!" and self.stage != "not" and len(self.commands) == 0:
            self.is_not = True
            self.stage = "not"
            return ON
        if sign in ("(", "{"):
            self.begin(reader, GroupFrame("sub" if sign == "(" else "group"))
            return ON
        if is_word_sign(sign) or sign in ("<", ">"):
            self.begin(reader, RunFrame())
            return AGAIN
        return WRONG

    def can_end(self):
        return self.stage == "first" and (len(self.pairs) > 0 or self.closers == (END,))

    def begin(self, reader, frame):
        self.is_begun = True
        reader.push(frame)

    def keep(self, reader, word):
        """What stands where a command can begin is this kept word; the sign behind it comes again."""
        self.is_begun = False
        if word in ("if", "while"):
            self.begin(reader, IfFrame(word))
        elif word == "for":
            self.begin(reader, ForFrame())
        elif word == "case":
            self.begin(reader, CaseFrame())
        elif word == "def":
            self.begin(reader, DefFrame())
        elif word in self.closers and self.can_end():
            reader.end_list(self.pairs, word)
        else:
            return WRONG
        return AGAIN

    def given(self, reader, command):
        self.commands.append(command)
        self.is_begun = False
        self.stage = "behind"

    def go_on(self, word):
        self.chain = (word, self.whole())
        self.stage = "next"

    def end_pair(self, is_back):
        self.pairs.append((self.whole(), is_back))
        self.chain = None
        self.stage = "first"

    def whole(self):
        """The command that is whole here: its row, with a not, with what was ahead of and, or."""
        command = self.commands[0] if len(self.commands) == 1 else ("row", self.commands)
        if self.is_not:
            command = ("not", command)
        if self.chain is not None:
            command = (self.chain[0], self.chain[1], command)
        self.commands = []
        self.is_not = False
        return command

    def hint(self):
        is_behind = self.is_begun or self.stage == "behind"
        if not is_behind and self.stage in ("next", "not", "bar"):
            return "a"
        closer = self.closers[-1]
        if closer == END:
            return ""
        if not is_behind and self.stage == "first" and len(self.pairs) == 0:
            return "a"
        if len(closer) == 1:
            return closer
        return ";" if is_behind else " " + closer + " "


class TextFrame:
    """The whole text: script is None till its end came."""

    def __init__(self):
        self.script = None

    def given_list(self, reader, pairs, closer):
        self.script = pairs

    def hint(self):
        return ""
