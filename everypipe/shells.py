"""Shells: the actors of scripts, and what one is at work: a stack of frames (everypipe.shellframes tells of them)."""

from everypipe.kinds import is_listed, is_text
from everypipe.errors import BadScript
from everypipe.blockframes import ChainFrame, ForFrame, NotFrame, WhileFrame
from everypipe.refusals import BadArguments
from everypipe.runframes import frame_of
from everypipe.shellforms import told
from everypipe.shellframes import EndFrame, FunctionFrame, ListFrame, TrapFrame
from everypipe.shelltrees import is_script
from everypipe.signs import is_sign_answer, leaving_out, sign_status

MOST_COMMANDS = 1000
MOST_CALLS = 30
FIRST_DESCRIPTOR = 10


class Shell:
    """A shell at work: wish is what it wishes now.

    worths are its values, view leads figures to descriptors, opened are the descriptors that it has
    opened, jobs the numbers of children; way is what is being left, a pair (word, how many loops),
    None if nothing is; waiting_signs are those that came while a trap's script was done.
    """

    def __init__(self, actor):
        self.is_child = actor.is_child
        self.worths = {name: actor.worths[name] for name in actor.worths}
        self.arguments = list(actor.arguments)
        self.functions = {name: actor.functions[name] for name in actor.functions}
        self.is_strict = actor.is_strict
        self.left_out = list(actor.left_out)
        self.view = {n: n for n in actor.figures}
        self.last_status = 0
        self.jobs = []
        self.waited = {}
        self.children = 0
        self.opened = {}
        self.traps = {}
        self.waiting_signs = []
        self.is_deaf = False
        self.is_exit_done = False
        self.begun_commands = 0
        self.way = None
        self.stack = [EndFrame(), ListFrame(actor.pairs, actor.is_child)]
        self.wish = None
        self.go_on()

    def go_on(self):
        """Go on up to the next wish."""
        self.wish = None
        while self.wish is None:
            frame = self.stack[-1]
            if self.way is None:
                frame.go(self)
            else:
                frame.leave(self)

    def tell(self, wish):
        self.begun_commands = 0
        self.wish = wish

    def feed(self, answer):
        if is_sign_answer(answer):
            self.hear(answer[1])
        else:
            self.stack[-1].answered(self, answer)
        self.go_on()

    def push(self, frame):
        self.stack.append(frame)

    def drop(self):
        self.stack.pop()

    def top(self):
        return self.stack[-1]

    def begin(self, command, can_become):
        self.begun_commands = self.begun_commands + 1
        if self.begun_commands == MOST_COMMANDS:
            self.is_exit_done = True
            self.is_deaf = True
            self.end(125)
            return
        word = command[0]
        if word == "def":
            self.functions[command[1]] = command[2]
            self.last_status = 0
        elif word == "not":
            self.push(NotFrame(command[1]))
        elif word in ("and", "or"):
            self.push(ChainFrame(command))
        else:
            self.push(frame_of(command, can_become))

    def call(self, strings):
        """Do the function that the first string names with the others."""
        if self.calls_around() == MOST_CALLS:
            self.last_status = 125
            return
        self.push(FunctionFrame(self.functions[strings[0]], self.arguments))
        self.arguments = list(strings[1:])

    def end(self, status):
        """Leave all that is begun but the end itself."""
        if any([isinstance(frame, TrapFrame) for frame in self.stack]):
            self.is_deaf = True
        self.waiting_signs = []
        self.last_status = status
        self.way = None
        self.stack = [EndFrame()]

    def hear(self, sign):
        if self.is_deaf:
            return
        if any([isinstance(frame, TrapFrame) for frame in self.stack]):
            if sign not in self.waiting_signs:
                self.waiting_signs.append(sign)
        else:
            self.heed(sign)

    def heed(self, sign):
        """Do what a sign that comes to the shell asks for."""
        if sign in self.left_out:
            return
        if sign in self.traps:
            self.begin_trap(sign)
        else:
            self.end(sign_status(sign))

    def begin_trap(self, word):
        self.push(TrapFrame(self.traps[word], self.last_status, self.way))
        self.way = None

    def hear_waiting(self):
        """Signs that waited come, up to one that has something done."""
        many = len(self.stack)
        while len(self.waiting_signs) > 0 and len(self.stack) == many:
            self.heed(self.waiting_signs.pop(0))

    def begin_exit_trap(self):
        """Whether the trap of the exit is to be done first; it is begun then."""
        if self.is_exit_done or "exit" not in self.traps:
            return False
        self.is_exit_done = True
        self.is_deaf = True
        self.begin_trap("exit")
        return True

    def around(self):
        """The frames within the last trap's script or function, those of functions within the former with them."""
        frames = []
        for frame in self.stack:
            frames = [] if isinstance(frame, TrapFrame) else [*frames, frame]
        return frames

    def loops_around(self):
        many = 0
        for frame in self.around():
            if isinstance(frame, FunctionFrame):
                many = 0
            elif isinstance(frame, (WhileFrame, ForFrame)):
                many += 1
        return many

    def calls_around(self):
        return len([frame for frame in self.around() if isinstance(frame, FunctionFrame)])

    def leave_more_loops(self):
        """Whether more than the loop on top is left; one of them fewer is then to be."""
        word, many = self.way
        if word == "return":
            return True
        self.way = (word, many - 1)
        return many > 1

    def scope_now(self):
        return ({name: self.worths[name] for name in self.worths}, list(self.arguments))

    def child_leads(self):
        """The table that a child has."""
        return {n: ("own", self.view[n]) for n in sorted(self.view)}

    def new_descriptor(self):
        n = FIRST_DESCRIPTOR
        while n in self.opened:
            n += 1
        return n

    def started(self, many):
        """The number of the first of so many children that were started now."""
        self.children = self.children + many
        return self.children - many

    def job(self, number):
        """The child that is a job, by its number from 1; None if there is none."""
        return self.jobs[number - 1] if 1 <= number <= len(self.jobs) else None

    def heard_by(self, actor):
        """An actor without the signs that the shell leaves out."""
        return leaving_out(actor, self.left_out) if len(self.left_out) > 0 else actor

    def child(self, pairs, leads):
        """The pair of the actor of a child for a list and of its table."""
        actor = ShellActor(pairs, self.arguments)
        actor.is_child = True
        actor.worths = {name: self.worths[name] for name in sorted(self.worths)}
        actor.functions = {name: self.functions[name] for name in sorted(self.functions)}
        actor.is_strict = self.is_strict
        actor.left_out = list(self.left_out)
        actor.figures = sorted(leads)
        return (actor, leads)


class ShellActor:
    """The actor of a shell; those of equal scripts, begun alike, are equal."""

    def __init__(self, pairs, arguments):
        self.pairs = pairs
        self.arguments = list(arguments)
        self.is_child = False
        self.worths = {}
        self.functions = {}
        self.is_strict = False
        self.left_out = []
        self.figures = [0, 1, 2]

    def __call__(self, answers):
        shell = Shell(self)
        for answer in answers:
            shell.feed(answer)
        return shell.wish

    def __eq__(self, other):
        if not isinstance(other, ShellActor) or self.is_child != other.is_child:
            return False
        if self.pairs != other.pairs or self.arguments != other.arguments or self.worths != other.worths:
            return False
        if self.functions != other.functions or self.is_strict != other.is_strict:
            return False
        return self.left_out == other.left_out and self.figures == other.figures


def shell_actor(script, arguments):
    if not is_script(script):
        raise BadScript(script)
    if not is_listed(arguments):
        raise BadArguments(0)
    for at, argument in enumerate(arguments):
        if not is_text(argument):
            raise BadArguments(at)
    return ShellActor(told("script", script), arguments)
