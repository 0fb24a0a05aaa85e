"""What the frames of the shell's reader share.

A text is read sign by sign. A stack of frames stands for all that is begun: the top one
takes each sign: ON, it is taken; AGAIN, the frame is done, or has put another one on top,
and the sign is handed to what is on top now; WRONG, nothing that is read goes on so. A
frame stands only where something can follow it, so WRONG comes at the first wrong sign.
hint() of a frame is some signs that lead on from it, "" if it can end where it is.
"""

from everypipe.wordforms import PLAIN

ON = "on"
AGAIN = "again"
WRONG = "wrong"
# It is handed behind the last sign; no string of signs below has it as a part.
END = "(end)"
QUOTING = ("\"", "'", "\\", "$")


def is_word_sign(sign):
    """Whether a sign can stand in a word, or begin what does."""
    return sign in PLAIN or sign in QUOTING


class RemarkFrame:
    """Behind a "#", up to the line's end. It is begun only where a line feed may stand."""

    def take(self, reader, sign):
        if sign not in ("\n", END):
            return ON
        reader.leave()
        return AGAIN

    def hint(self):
        return "\n"


class KeptFrame:
    """A kept word that must come; blanks may stand ahead of it, line feeds only if has_lines."""

    def __init__(self, word, has_lines):
        self.word = word
        self.has_lines = has_lines
        self.seen = ""

    def take(self, reader, sign):
        if self.seen == self.word:
            if is_word_sign(sign):
                return WRONG
            reader.done(self.word)
            return AGAIN
        if sign == self.word[len(self.seen)]:
            self.seen = self.seen + sign
            return ON
        if self.seen != "":
            return WRONG
        if sign == " " or (sign == "\n" and self.has_lines):
            return ON
        if sign == "#" and self.has_lines:
            reader.push(RemarkFrame())
            return ON
        return WRONG

    def hint(self):
        return self.word[len(self.seen):] + " "
