"""The frames of what has turns: runs, subs, blocks; and of rows."""

from everypipe.actors import actor_of
from everypipe.blockframes import block_frame
from everypipe.callings import piece_called
from everypipe.filetrees import resolved
from everypipe.givens import program_of
from everypipe.shellframes import FillFrame, ascending
from everypipe.shellwords import begin_word, is_word

OPEN_WAYS = {"<": "read", ">": "cut", ">>": "add", "<:": "lines"}


class TurnedFrame:
    """What all commands with turns share.

    view is the shell's view as it was ahead of them, opened what they opened; wanted the path or
    the lines that the next turn is to open, None if its word is still to be filled.
    """

    def __init__(self, turns):
        self.turns = turns
        self.done_turns = 0
        self.view = None
        self.opened = []
        self.wanted = None
        self.m = None
        self.is_refused = False

    def go_turns(self, shell):
        """Go on with the turns; whether they are done, or one was refused."""
        if self.view is None:
            self.view = {n: shell.view[n] for n in shell.view}
        if self.is_refused or self.done_turns == len(self.turns):
            return True
        n, way, what = self.turns[self.done_turns]
        if way in ("&", "-"):
            self.turn(shell, n, shell.view.get(what, None))
        elif self.wanted is None:
            shell.push(FillFrame("text", what, shell.scope_now()))
        else:
            self.m = shell.new_descriptor()
            shell.tell(("open", self.m, self.wanted, OPEN_WAYS[way]))
        return False

    def turn(self, shell, n, m):
        """A figure leads to a descriptor, nowhere if that is None."""
        shell.view = {other: shell.view[other] for other in shell.view if other != n}
        if m is not None:
            shell.view[n] = m
        self.done_turns = self.done_turns + 1
        self.wanted = None

    def refuse(self, shell, status):
        self.is_refused = True
        shell.last_status = status

    def given_turn(self, shell, told):
        """The string of the turn's word, or its refusal."""
        if told[0] == "refused":
            self.refuse(shell, 2)
        elif self.turns[self.done_turns][1] == "<:":
            self.wanted = told[1].split("\n") if told[1] != "" else []
        else:
            self.wanted = resolved("", told[1])
            if self.wanted is None:
                self.refuse(shell, 1)

    def answered_turn(self, shell, word):
        if word != "":
            self.refuse(shell, 1)
            return
        shell.opened[self.m] = True
        self.opened = sorted([*self.opened, self.m])
        self.turn(shell, self.turns[self.done_turns][0], self.m)

    def go_closings(self, shell):
        """Go on with the closings; whether they are done."""
        if self.view is not None:
            shell.view = {n: self.view[n] for n in self.view}
        if len(self.opened) == 0:
            return True
        shell.tell(("close", self.opened[0]))
        return False

    def answered_closing(self, shell):
        del shell.opened[self.opened[0]]
        del self.opened[0]


class BlockFrame(TurnedFrame):
    """stage is "turns" or "closings"."""

    def __init__(self, command):
        TurnedFrame.__init__(self, command[-1])
        self.node = command
        self.stage = "turns"

    def go(self, shell):
        if self.stage == "closings":
            self.leave(shell)
        elif self.go_turns(shell):
            self.stage = "closings"
            if not self.is_refused:
                shell.push(block_frame(self.node))

    def given(self, shell, told, k):
        self.given_turn(shell, told)

    def answered(self, shell, answer):
        if self.stage == "turns":
            self.answered_turn(shell, answer)
        else:
            self.answered_closing(shell)

    def leave(self, shell):
        self.stage = "closings"
        if self.go_closings(shell):
            shell.drop()


class StartingFrame(TurnedFrame):
    """What starts one child: "start", "closings", "wait" are the last ones of its stages; k is None without one."""

    def __init__(self, turns):
        TurnedFrame.__init__(self, turns)
        self.stage = "turns"
        self.k = None

    def answered(self, shell, answer):
        if self.stage == "turns":
            self.answered_turn(shell, answer)
        elif self.stage == "start":
            self.k = shell.started(1)
            self.stage = "closings"
        elif self.stage == "closings":
            self.answered_closing(shell)
        else:
            shell.last_status = ("child", self.k)
            self.end(shell)

    def leave(self, shell):
        self.stage = "closings"
        if not self.go_closings(shell):
            return
        if self.k is None:
            self.end(shell)
        else:
            self.stage = "wait"

    def go_last(self, shell):
        """The stages behind the start."""
        if self.stage == "wait":
            shell.tell(("wait", self.k))
        else:
            self.leave(shell)

    def end(self, shell):
        shell.drop()


class SubFrame(StartingFrame):
    def __init__(self, command):
        StartingFrame.__init__(self, command[2])
        self.pairs = command[1]

    def go(self, shell):
        if self.stage == "turns":
            if self.go_turns(shell):
                self.stage = "closings" if self.is_refused else "start"
        elif self.stage == "start":
            shell.tell(("start", [shell.child(self.pairs, shell.child_leads())], {}))
        else:
            self.go_last(shell)

    def given(self, shell, told, k):
        self.given_turn(shell, told)


class RunFrame(StartingFrame):
    """stage is "words", "turns", "sets", "do", "become", "start", "closings" or "wait".

    last_child is that of the last out put in; ahead has the values of the names that were set, as they were.
    """

    def __init__(self, command, can_become):
        StartingFrame.__init__(self, command[3])
        self.node = command
        self.can_become = can_become
        self.stage = "words"
        self.strings = []
        self.done_sets = 0
        self.ahead = {}
        self.last_child = None
        self.actor = None

    def go(self, shell):
        if self.stage == "words":
            shell.push(FillFrame("words", self.node[2], shell.scope_now()))
        elif self.stage == "turns":
            if self.go_turns(shell):
                self.stage = "closings" if self.is_refused else "sets"
        elif self.stage == "sets":
            self.go_sets(shell)
        elif self.stage == "do":
            self.stage = "closings"
            self.begin(shell)
        elif self.stage == "become":
            shell.tell(("become", shell.heard_by(self.actor), shell.child_leads()))
        elif self.stage == "start":
            shell.tell(("start", [(shell.heard_by(self.actor), shell.child_leads())], {}))
        else:
            self.go_last(shell)

    def go_sets(self, shell):
        if self.done_sets == len(self.node[1]):
            self.stage = "do"
        else:
            shell.push(FillFrame("text", self.node[1][self.done_sets][1], shell.scope_now()))

    def given(self, shell, told, k):
        if k is not None:
            self.last_child = k
        if self.stage == "turns":
            self.given_turn(shell, told)
        elif told[0] == "refused":
            shell.last_status = 2
            self.stage = "closings"
        elif self.stage == "words":
            self.strings = told[1]
            self.stage = "turns"
        else:
            name = self.node[1][self.done_sets][0]
            self.ahead.setdefault(name, shell.worths.get(name, None))
            shell.worths[name] = told[1]
            self.done_sets = self.done_sets + 1

    def begin(self, shell):
        """Do what the strings tell; the closings come next if nothing else is put ahead of them."""
        if len(self.strings) == 0:
            shell.last_status = 0 if self.last_child is None else ("child", self.last_child)
        elif self.strings[0] in shell.functions:
            shell.call(self.strings)
        elif is_word(self.strings[0]):
            begin_word(shell, self.strings)
        else:
            piece = piece_called(self.strings)
            if piece is None:
                shell.last_status = 127
            else:
                self.actor = actor_of(program_of(piece))
                self.stage = "become" if self.can_become else "start"

    def end(self, shell):
        if len(self.strings) > 0:
            for name, text in self.ahead.items():
                if text is None:
                    shell.worths.pop(name, None)
                else:
                    shell.worths[name] = text
        shell.drop()


class RowFrame:
    """stage is "start", "wait", or, of a strict shell, "ask"; asked are the statuses so far."""

    def __init__(self, command):
        self.nodes = command[1]
        self.stage = "start"
        self.first = None
        self.many_waited = 0
        self.asked = []

    def go(self, shell):
        if self.stage == "start":
            shell.tell(("start", [self.child(shell, at) for at in range(len(self.nodes))], {}))
        elif self.stage == "wait" and self.many_waited < len(self.nodes):
            shell.tell(("wait", self.first + self.many_waited))
        elif self.stage == "ask" and len(self.asked) < len(self.nodes):
            shell.tell(("ask", self.first + len(self.asked)))
        else:
            self.end(shell)

    def child(self, shell, at):
        leads = dict(shell.child_leads())
        if at > 0:
            leads[0] = ("new", at - 1, "take")
        if at < len(self.nodes) - 1:
            leads[1] = ("new", at, "put")
        return shell.child([(self.nodes[at], False)], ascending(leads))

    def answered(self, shell, answer):
        if self.stage == "start":
            self.first = shell.started(len(self.nodes))
            self.stage = "wait"
        elif self.stage == "wait":
            self.many_waited = self.many_waited + 1
        else:
            self.asked.append(answer)

    def end(self, shell):
        if self.stage == "wait" and shell.is_strict:
            self.stage = "ask"
            return
        if self.stage == "ask":
            wrong = [status for status in self.asked if status != 0]
            shell.last_status = wrong[-1] if len(wrong) > 0 else 0
        else:
            shell.last_status = ("child", self.first + len(self.nodes) - 1)
        shell.drop()


def frame_of(command, can_become):
    """The frame of a run, a row, a sub or a block."""
    word = command[0]
    if word == "run":
        return RunFrame(command, can_become)
    if word == "row":
        return RowFrame(command)
    return SubFrame(command) if word == "sub" else BlockFrame(command)
