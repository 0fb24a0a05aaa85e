"""What rows of given programs put, each piece asked for lines by the one behind it."""

from everypipe.actors import Work
from everypipe.errors import BadMost, BadPieces
from everypipe.givens import program_of
from everypipe.kinds import is_listed, is_number, lines_fault
from everypipe.pieces import is_piece
from everypipe.refusals import BadLines

BROKEN = 141


class RowPlay:
    """The pieces of a row at work; between two there is one line, or None.

    asked are the indexes of those under way, each asked by the one below it, or led to its end there.
    """

    def __init__(self, pieces, lines):
        self.works = [Work(program_of(piece).rows()) for piece in pieces]
        self.lines = list(lines)
        self.between = [None for _ in pieces]
        self.outs = []
        self.outcomes = [None for _ in pieces]
        self.many_taken = [0 for _ in pieces]
        self.many_put = [0 for _ in pieces]
        self.asked = [len(pieces) - 1]

    def go_on(self):
        """The piece that was asked last does what it wishes."""
        at = self.asked[-1]
        wish = self.works[at].wish
        if wish[0] == "over":
            self.end(at, wish[1])
        elif wish[0] == "put":
            self.put(at, wish[2])
        elif at == 0:
            self.answer(at, self.lines.pop(0) if len(self.lines) > 0 else None)
        elif self.between[at - 1] is None and self.outcomes[at - 1] is None:
            self.asked.append(at - 1)
        else:
            line = self.between[at - 1]
            self.between[at - 1] = None
            self.answer(at, line)

    def answer(self, at, line):
        if line is not None:
            self.many_taken[at] += 1
        self.works[at].answer(line)

    def put(self, at, line):
        is_last = at == len(self.works) - 1
        if not is_last and self.outcomes[at + 1] is not None:
            self.end(at, BROKEN)
            return
        self.many_put[at] += 1
        self.works[at].answer(None)
        if is_last:
            self.outs.append(line)
        else:
            self.between[at] = line
            self.asked.pop()

    def end(self, at, status):
        """A piece is over: the one ahead goes on to its own end."""
        self.outcomes[at] = status
        self.asked.pop()
        if at > 0 and self.outcomes[at - 1] is None:
            self.asked.append(at - 1)


def is_row_piece(thing):
    return is_piece(thing) and thing[0] not in ("tee", "paste")


def row_meaning(pieces, lines, most):
    if not is_listed(pieces) or len(pieces) == 0:
        raise BadPieces(0)
    for at, piece in enumerate(pieces):
        if not is_row_piece(piece):
            raise BadPieces(at)
    fault = lines_fault(lines)
    if fault is not None:
        raise BadLines(fault)
    if not is_number(most):
        raise BadMost(most)
    play = RowPlay(pieces, lines)
    while len(play.asked) > 0:
        play.go_on()
        if max(play.many_put) > most:
            return None
    return (play.outs, play.outcomes, play.many_taken)
