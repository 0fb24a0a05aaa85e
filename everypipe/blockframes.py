"""The frames of commands that have lists or commands within themselves."""

from everypipe.globs import row_of_items
from everypipe.matching import matches_whole, moves_of
from everypipe.shellframes import AskFrame, FillFrame, ListFrame


class NotFrame:
    def __init__(self, command):
        self.node = command
        self.is_begun = False

    def go(self, shell):
        if not self.is_begun:
            self.is_begun = True
            shell.push(AskFrame())
            shell.begin(self.node, False)
        else:
            shell.last_status = 1 if shell.last_status == 0 else 0
            shell.drop()

    def leave(self, shell):
        shell.drop()


class ChainFrame:
    """An and or an or."""

    def __init__(self, command):
        self.node = command
        self.is_begun = False

    def go(self, shell):
        if not self.is_begun:
            self.is_begun = True
            shell.push(AskFrame())
            shell.begin(self.node[1], False)
            return
        shell.drop()
        if (shell.last_status == 0) == (self.node[0] == "and"):
            shell.begin(self.node[2], False)

    def leave(self, shell):
        shell.drop()


class IfFrame:
    def __init__(self, command):
        self.node = command
        self.is_begun = False

    def go(self, shell):
        if not self.is_begun:
            self.is_begun = True
            shell.push(AskFrame())
            shell.push(ListFrame(self.node[1], False))
            return
        shell.drop()
        pairs = self.node[2] if shell.last_status == 0 else self.node[3]
        if pairs is None:
            shell.last_status = 0
        else:
            shell.push(ListFrame(pairs, False))

    def leave(self, shell):
        shell.drop()


class WhileFrame:
    """stage is "begin", "first" behind the first list, "second" behind the second one.

    status is that of the last second one.
    """

    def __init__(self, command):
        self.node = command
        self.stage = "begin"
        self.last_status = 0

    def go(self, shell):
        if self.stage == "second":
            self.last_status = shell.last_status
            self.stage = "begin"
        if self.stage == "begin":
            self.stage = "first"
            shell.push(AskFrame())
            shell.push(ListFrame(self.node[1], False))
        elif shell.last_status == 0:
            self.stage = "second"
            shell.push(ListFrame(self.node[2], False))
        else:
            shell.last_status = self.last_status
            shell.drop()

    def leave(self, shell):
        if shell.leave_more_loops():
            shell.drop()
            return
        word = shell.way[0]
        shell.way = None
        if word == "next":
            if self.stage == "first":
                self.stage = "begin"
            return
        if self.stage == "first":
            shell.last_status = self.last_status
        shell.drop()


class ForFrame:
    """strings are what its words came to, None till then."""

    def __init__(self, command):
        self.node = command
        self.strings = None
        self.at = 0

    def go(self, shell):
        if self.strings is None:
            shell.push(FillFrame("words", self.node[2], shell.scope_now()))
        elif self.at == len(self.strings):
            shell.drop()
        else:
            shell.worths[self.node[1]] = self.strings[self.at]
            self.at = self.at + 1
            shell.push(ListFrame(self.node[3], False))

    def given(self, shell, told, k):
        if told[0] == "refused":
            shell.last_status = 2
            shell.drop()
            return
        self.strings = told[1]
        if len(self.strings) == 0:
            shell.last_status = 0

    def leave(self, shell):
        if shell.leave_more_loops():
            shell.drop()
            return
        word = shell.way[0]
        shell.way = None
        if word == "leave":
            shell.drop()


class CaseFrame:
    """text is what its word came to, None till then; choices are pairs (word, list), those looked at gone."""

    def __init__(self, command):
        self.node = command
        self.text = None
        self.choices = [(word, pairs) for words, pairs in command[2] for word in words]

    def go(self, shell):
        if self.text is None:
            shell.push(FillFrame("text", self.node[1], shell.scope_now()))
        elif len(self.choices) == 0:
            shell.last_status = 0
            shell.drop()
        else:
            shell.push(FillFrame("glob", self.choices[0][0], shell.scope_now()))

    def given(self, shell, told, k):
        if told[0] == "refused":
            shell.last_status = 2
            shell.drop()
        elif self.text is None:
            self.text = told[1].replace("\n", " ")
        else:
            _, pairs = self.choices.pop(0)
            if matches_whole(moves_of(row_of_items(told[1])), self.text):
                shell.drop()
                shell.push(ListFrame(pairs, False))

    def leave(self, shell):
        shell.drop()


def block_frame(command):
    """The frame of a command with turns around it, without these."""
    word = command[0]
    if word == "group":
        return ListFrame(command[1], False)
    if word == "if":
        return IfFrame(command)
    if word == "while":
        return WhileFrame(command)
    return ForFrame(command) if word == "for" else CaseFrame(command)
