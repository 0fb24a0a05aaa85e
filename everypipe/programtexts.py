"""Programs as texts: the first wrong sign, the program of a text, the text of a program."""

from everypipe.errors import BadProgram, BadProgramText
from everypipe.kinds import is_listed
from everypipe.piecereading import WordPiece, begun_piece
from everypipe.places import line_and_sign
from everypipe.programs import ROW_KINDS, Program

# The rows whose last number stands behind an "else".
ELSE_ROWS = ("take", "match", "same", "less", "first", "least")


def text_kinds(word):
    """The kinds of what stands behind the word of a row in a text."""
    kinds = list(ROW_KINDS[word])
    if word in ELSE_ROWS:
        kinds.insert(len(kinds) - 1, "else")
    return kinds


class ProgramReader:
    """A program's text read sign by sign.

    piece is the piece that is being read, None where one must begin; kinds those of the pieces
    that are still to come in this row, where "parts" stands for as many as one likes.
    """

    def __init__(self):
        self.told_rows = []
        self.begin_row()

    def begin_row(self):
        self.things = []
        self.kinds = []
        self.is_in_parts = False
        self.kind = "word"
        self.piece = WordPiece(list(ROW_KINDS))

    def is_right(self, sign):
        """Whether some text goes on with a sign."""
        if self.piece is None:
            self.piece = begun_piece(self.kind, sign)
            return self.piece.is_right(sign)
        if sign not in (" ", "\n") or (sign == " " and not self.piece.is_whole()):
            return self.piece.is_right(sign)
        if not self.piece.is_whole():
            return False
        self.end_piece()
        return self.can_begin_piece() if sign == " " else self.can_end_row()

    def end_piece(self):
        thing = self.piece.told_thing()
        if self.kind == "word":
            self.kinds = text_kinds(thing)
        if self.is_in_parts:
            self.things[-1].append(thing)
        elif self.kind != "else":
            self.things.append(thing)

    def can_begin_piece(self):
        """Go on to the next piece of the row; whether there can be one."""
        self.piece = None
        if self.is_in_parts:
            return True
        if len(self.kinds) == 0:
            return False
        self.kind = self.kinds.pop(0)
        if self.kind == "parts":
            self.begin_parts()
        return True

    def begin_parts(self):
        self.is_in_parts = True
        self.kind = "part"
        self.things.append([])

    def can_end_row(self):
        """Go on to the next row; whether this one can end."""
        if self.kinds == ["parts"]:
            self.kinds = []
            self.begin_parts()
        if len(self.kinds) > 0:
            return False
        self.told_rows.append(tuple(self.things))
        self.begin_row()
        return True

    def is_at_begin(self):
        """Whether the text can end here: at the beginning of a row."""
        return self.kind == "word" and self.piece.text == ""


def read_through(text):
    """The pair of the rows of a string, or None, and of its fault, or None."""
    reader = ProgramReader()
    for at, sign in enumerate(text):
        if not reader.is_right(sign):
            return (None, line_and_sign(text, at))
    if not reader.is_at_begin():
        return (None, line_and_sign(text, len(text)))
    return (reader.told_rows, None)


def program_fault(text):
    if not isinstance(text, str):
        return (0, 0)
    return read_through(text)[1]


def read_program(text):
    if not isinstance(text, str):
        raise BadProgramText(0, 0)
    told_rows, fault = read_through(text)
    if fault is not None:
        raise BadProgramText(fault[0], fault[1])
    return Program(told_rows)


def in_quotes(text):
    return "'" + text.replace("\\", "\\\\").replace("'", "\\'") + "'"


def part_text(part):
    return in_quotes(part[1]) if part[0] == "text" else part[1]


def row_pieces(row):
    """The texts of the pieces of a row."""
    pieces = [row[0]]
    for kind, thing in zip(ROW_KINDS[row[0]], row[1:]):
        if kind == "at" and row[0] in ELSE_ROWS:
            pieces.append("else")
        if is_listed(thing):
            pieces.extend([part_text(part) for part in thing])
        else:
            pieces.append(in_quotes(thing) if kind == "pattern" else str(thing))
    return pieces


def program_text(program):
    if not isinstance(program, Program):
        raise BadProgram(program)
    return "".join([" ".join(row_pieces(row)) + "\n" for row in program.rows()])
