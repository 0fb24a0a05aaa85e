"""What a program does alone: its deeds, what these put, and what each line put is owed to."""

from everypipe.actors import Work
from everypipe.errors import BadDeeds, BadDescriptor, BadMost, BadProgram, BadStreams
from everypipe.kinds import is_line_of_signs, is_listed, is_listed_of, is_number, is_number_to, lines_fault, word_of
from everypipe.programs import Program

DEED_LENGTHS = {"take": 3, "end": 2, "put": 3, "lost": 3, "close": 2, "over": 2}


def is_descriptor(thing):
    return is_number_to(thing, 31)


def is_streams(thing):
    if not isinstance(thing, dict):
        return False
    return all([is_descriptor(n) and is_listed(lines) and lines_fault(lines) is None for n, lines in thing.items()])


class Stage:
    """A program alone with its streams: how far each one was taken, and what is closed."""

    def __init__(self, program, streams):
        self.work = Work(program.rows())
        self.streams = streams
        self.taken = {}
        self.closed = {}

    def next_deed(self):
        """Do what the program wishes, and tell it."""
        wish = self.work.wish
        word = wish[0]
        if word == "over":
            return wish
        n = wish[1]
        if word == "take":
            return self.take(n)
        if word == "close":
            self.closed[n] = True
        self.work.answer(None)
        return ("lost", n, wish[2]) if word == "put" and n in self.closed else wish

    def take(self, n):
        lines = self.streams.get(n, [])
        at = self.taken.get(n, 0)
        if n in self.closed or at == len(lines):
            self.work.answer(None)
            return ("end", n)
        self.taken[n] = at + 1
        self.work.answer(lines[at])
        return ("take", n, lines[at])


def alone(program, streams, most):
    if not isinstance(program, Program):
        raise BadProgram(program)
    if not is_streams(streams):
        raise BadStreams(streams)
    if not is_number(most):
        raise BadMost(most)
    stage = Stage(program, streams)
    deeds = []
    while len(deeds) < most:
        deeds.append(stage.next_deed())
        if deeds[-1][0] == "over":
            break
    return deeds


def is_deed_alone(thing):
    word = word_of(thing)
    if word not in DEED_LENGTHS or not is_listed_of(thing, DEED_LENGTHS[word]):
        return False
    if word == "over":
        return is_number_to(thing[1], 255)
    return is_descriptor(thing[1]) and (len(thing) == 2 or is_line_of_signs(thing[2]))


def check_deeds(deeds):
    if not is_listed(deeds):
        raise BadDeeds(0)
    is_over = False
    for at, deed in enumerate(deeds):
        if is_over or not is_deed_alone(deed):
            raise BadDeeds(at)
        is_over = deed[0] == "over"


def outs_of(deeds):
    check_deeds(deeds)
    outs = {}
    for deed in deeds:
        if deed[0] == "put":
            outs.setdefault(deed[1], []).append(deed[2])
    return {n: outs[n] for n in sorted(outs)}


def needs_of(deeds, n):
    check_deeds(deeds)
    if not is_descriptor(n):
        raise BadDescriptor(n)
    needs = []
    asked = {}
    for deed in deeds:
        if deed[0] in ("take", "end"):
            asked[deed[1]] = asked.get(deed[1], 0) + 1
        elif deed[0] == "put" and deed[1] == n:
            needs.append({other: asked[other] for other in sorted(asked)})
    return needs
