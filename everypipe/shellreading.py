"""The shell's text read: its script, its first wrong sign, and what completes it."""

from everypipe.errors import BadShellText
from everypipe.kinds import is_text
from everypipe.listreading import ListFrame, TextFrame
from everypipe.places import line_and_sign
from everypipe.readingframes import AGAIN, END, WRONG


class Reader:
    """The stack of frames (everypipe.readingframes tells of them) that the signs of a text are handed to."""

    def __init__(self):
        self.bottom = TextFrame()
        self.stack = [self.bottom]
        self.begin_list((END,))

    def push(self, frame):
        self.stack.append(frame)

    def leave(self):
        """The top frame goes, and nothing is told of it."""
        self.stack.pop()

    def swap(self, frame):
        self.stack[-1] = frame

    def done(self, thing):
        """The top frame has come to this thing, which the frame below is given."""
        self.stack.pop()
        self.stack[-1].given(self, thing)

    def begin_list(self, closers):
        self.stack.append(ListFrame(closers))

    def end_list(self, pairs, closer):
        self.stack.pop()
        self.stack[-1].given_list(self, pairs, closer)

    def keep(self, word):
        return self.stack[-1].keep(self, word)

    def is_right(self, sign):
        """Whether something that is read goes on with this sign."""
        code = AGAIN
        while code == AGAIN:
            code = self.stack[-1].take(self, sign)
        return code != WRONG

    def hint(self):
        """Some signs that lead on from here to an end, "" at one."""
        for frame in self.stack[::-1]:
            signs = frame.hint()
            if signs != "":
                return signs
        return ""


def wrong_place(reader, text):
    """The index of the first sign of a text that is wrong for a reader, None if there is none."""
    for at, sign in enumerate(text):
        if not is_text(sign) or not reader.is_right(sign):
            return at
    return None


def read_through(text):
    """A pair: the script of a string, or None; its fault, or None."""
    reader = Reader()
    at = wrong_place(reader, text)
    if at is None and not reader.is_right(END):
        at = len(text)
    if at is None:
        return (reader.bottom.script, None)
    return (None, line_and_sign(text, at))


def read_script(text):
    if not isinstance(text, str):
        raise BadShellText(0, 0)
    script, fault = read_through(text)
    if fault is not None:
        raise BadShellText(fault[0], fault[1])
    return script


def script_fault(text):
    if not isinstance(text, str):
        return (0, 0)
    return read_through(text)[1]


def completed(text):
    if not isinstance(text, str):
        return None
    reader = Reader()
    if wrong_place(reader, text) is not None:
        return None
    parts = [text]
    hint = reader.hint()
    while hint != "":
        # No sign of a hint is wrong; the call hands it on.
        wrong_place(reader, hint)
        parts.append(hint)
        hint = reader.hint()
    return "".join(parts)
