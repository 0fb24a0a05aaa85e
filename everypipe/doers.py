"""Actors at work: what one wishes now, and answers handed to it one by one.

An actor itself is handed all answers each time; those of programs and shells go on from where they are.
"""

from everypipe.actors import ProgramActor, Work
from everypipe.shells import Shell, ShellActor
from everypipe.signs import LeavingOut, is_sign_answer
from everypipe.wishes import wish_of


def copied_answers(answers):
    return [list(answer) if isinstance(answer, list) else answer for answer in answers]


class CallDoer:
    """An actor of which nothing is known but what it tells when it is asked."""

    def __init__(self, actor):
        self.actor = actor
        self.answers = []
        self.is_asked = False
        self.wish = None

    def wished(self):
        if not self.is_asked:
            self.wish = wish_of(self.actor(copied_answers(self.answers)))
            self.is_asked = True
        return self.wish

    def feed(self, answer):
        self.answers.append(answer)
        self.is_asked = False


class ProgramDoer:
    def __init__(self, actor):
        self.work = Work(actor.program_rows)

    def wished(self):
        return self.work.wish

    def feed(self, answer):
        if is_sign_answer(answer):
            self.work.hear(answer[1])
        else:
            self.work.answer(answer)


class ShellDoer:
    def __init__(self, actor):
        self.shell = Shell(actor)

    def wished(self):
        return wish_of(self.shell.wish)

    def feed(self, answer):
        self.shell.feed(answer)


class LeavingDoer:
    """A doer that is not handed some signs."""

    def __init__(self, doer, signs):
        self.doer = doer
        self.signs = signs

    def wished(self):
        return self.doer.wished()

    def feed(self, answer):
        if not (is_sign_answer(answer) and answer[1] in self.signs):
            self.doer.feed(answer)


def begun(actor):
    if isinstance(actor, ProgramActor):
        return ProgramDoer(actor)
    if isinstance(actor, ShellActor):
        return ShellDoer(actor)
    if isinstance(actor, LeavingOut):
        return LeavingDoer(begun(actor.actor), actor.signs)
    return CallDoer(actor)


def begun_with(actor, answers):
    """The doer of an actor that has had some answers."""
    doer = begun(actor)
    for answer in answers:
        doer.feed(answer)
    return doer
