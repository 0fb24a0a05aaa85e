"""What the frames of a shell at work share, and those that ask, fill words, take outs.

A shell's stack of frames stands for all that it has begun. The top one goes on, by go(shell):
it tells a wish, or puts another frame on top, or is gone. answered(shell, answer) hands it the
answer to its wish; till then go, called again, tells the wish anew, by what holds then, for a
trap's script may have been done meanwhile. given(shell, thing, k) hands it what a frame on top of
it came to; k is the number of the child of the last out in that. leave(shell) is called in go's
place when a loop or a function is left; a frame that no list has within itself has none.
"""

from everypipe.expansion import glob_told, text_told, words_told
from everypipe.filetrees import resolved
from everypipe.kinds import is_number


def ascending(leads):
    return {n: leads[n] for n in sorted(leads)}


class AskFrame:
    """The status of the shell is asked, if it is a child's."""

    def go(self, shell):
        if is_number(shell.last_status):
            shell.drop()
        else:
            shell.tell(("ask", shell.last_status[1]))

    def answered(self, shell, status):
        shell.last_status = status

    def leave(self, shell):
        shell.drop()


class FillFrame:
    """Words, a text or a glob, of one scope; the frame below is given what they come to."""

    def __init__(self, kind, what, scope):
        self.kind = kind
        self.what = what
        self.scope = scope
        self.answers = []
        self.last_child = None

    def told(self):
        if self.kind == "words":
            return words_told(self.what, self.scope, self.answers)
        if self.kind == "text":
            return text_told(self.what, self.scope, self.answers)
        return glob_told(self.what, self.scope, self.answers)

    def go(self, shell):
        told = self.told()
        if told[0] != "needs":
            shell.drop()
            shell.top().given(shell, told, self.last_child)
            return
        need = told[1]
        if need[0] == "out":
            shell.push(OutFrame(need[1]))
        elif need[0] == "list":
            self.list_names(shell, need[1])
        elif is_number(shell.last_status):
            self.answers.append(shell.last_status)
        else:
            shell.push(AskFrame())

    def list_names(self, shell, text):
        path = resolved("", text)
        if path is None:
            self.answers.append(None)
        else:
            shell.tell(("list", path))

    def answered(self, shell, names):
        self.answers.append(names)

    def given(self, shell, lines, k):
        self.answers.append(lines)
        self.last_child = k


class OutFrame:
    """What a list puts; stage is the word of the wish that comes next."""

    def __init__(self, pairs):
        self.pairs = pairs
        self.stage = "start"
        self.m = None
        self.k = None
        self.lines = []

    def go(self, shell):
        if self.stage == "start":
            self.m = shell.new_descriptor()
            leads = ascending({**shell.child_leads(), 1: ("new", 0, "put")})
            shell.tell(("start", [shell.child(self.pairs, leads)], {self.m: ("new", 0, "take")}))
        elif self.stage == "wait":
            shell.tell(("wait", self.k))
        else:
            shell.tell((self.stage, self.m))

    def answered(self, shell, answer):
        if self.stage == "start":
            self.k = shell.started(1)
            shell.opened[self.m] = True
            self.stage = "take"
        elif self.stage == "take":
            if answer is None:
                self.stage = "close"
            else:
                self.lines.append(answer)
        elif self.stage == "close":
            del shell.opened[self.m]
            self.stage = "wait"
        else:
            shell.last_status = ("child", self.k)
            shell.drop()
            shell.top().given(shell, self.lines, self.k)


class ListFrame:
    """A list; can_become if it is all that a child does, so that a single run may become its program."""

    def __init__(self, pairs, can_become):
        self.pairs = pairs
        self.can_become = can_become and len(pairs) == 1
        self.at = 0

    def go(self, shell):
        if self.at == len(self.pairs):
            shell.drop()
            return
        command, is_back = self.pairs[self.at]
        if is_back:
            leads = {n: lead for n, lead in shell.child_leads().items() if n != 0}
            shell.tell(("start", [shell.child([(command, False)], leads)], {}))
        else:
            self.at = self.at + 1
            shell.begin(command, self.can_become)

    def answered(self, shell, answer):
        shell.jobs.append(shell.started(1))
        shell.last_status = 0
        self.at = self.at + 1

    def leave(self, shell):
        shell.drop()


class FunctionFrame:
    """A function at work; saved are the arguments as they were ahead of it."""

    def __init__(self, pairs, saved):
        self.pairs = pairs
        self.saved = saved
        self.is_begun = False

    def go(self, shell):
        if not self.is_begun:
            self.is_begun = True
            shell.push(ListFrame(self.pairs, False))
        else:
            shell.arguments = self.saved
            shell.drop()

    def leave(self, shell):
        shell.way = None
        self.go(shell)


class TrapFrame:
    """A trap's script at work; the status, and what was being left, are then what they were ahead."""

    def __init__(self, script, status, way):
        self.script = script
        self.last_status = status
        self.way = way
        self.is_begun = False

    def go(self, shell):
        if not self.is_begun:
            self.is_begun = True
            shell.push(ListFrame(self.script, False))
        else:
            shell.drop()
            shell.last_status = self.last_status
            shell.way = self.way
            shell.hear_waiting()


class EndFrame:
    """The end of the shell: its status is asked, if it is no child, then a trap is done, then it is over."""

    def go(self, shell):
        if not shell.is_child and not is_number(shell.last_status):
            shell.push(AskFrame())
        elif not shell.begin_exit_trap():
            shell.tell(("over", shell.last_status))
