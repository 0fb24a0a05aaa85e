"""Programs as actors: what one wishes next, by the answers that it had so far."""

from everypipe.errors import BadAnswers, BadProgram
from everypipe.kinds import LINE_SIGNS, is_line_of_signs, is_listed
from everypipe.matching import has_stretch, moves_of
from everypipe.patterntexts import read_pattern
from everypipe.programs import COUNTER_NAMES, LINE_NAMES, Program
from everypipe.signs import is_sign_answer, sign_status

GREATEST_SHELF = 200
GREATEST_STRETCH = 2000
# Figures behind the first sixty-four are not seen in a line.
MANY = 10 ** 64


def figures_of(number):
    """The first sixty signs, or more, of a number that may be very great."""
    ahead = "-" if number < 0 else ""
    number = abs(number)
    while number >= MANY * MANY:
        number = number // MANY
    return ahead + str(number)


class Work:
    """A program at work: at is the number of its row, wish what it wishes now."""

    def __init__(self, program_rows):
        self.program_rows = program_rows
        self.lines = {name: "" for name in LINE_NAMES}
        self.counters = {name: 0 for name in COUNTER_NAMES}
        self.shelf = []
        self.at = 0
        self.moves = {}
        self.wish = self.next_wish()

    def next_wish(self):
        """Go through inner rows up to an outer one, and tell its wish."""
        many = 0
        while self.at < len(self.program_rows):
            row = self.program_rows[self.at]
            if row[0] in ("take", "put", "close", "end"):
                return self.outer_wish(row)
            self.at = self.behind_inner(row)
            many += 1
            if many == GREATEST_STRETCH:
                return ("over", 254)
        return ("over", 0)

    def outer_wish(self, row):
        if row[0] == "put":
            return ("put", row[1], self.joined(row[2]))
        return ("over", row[1]) if row[0] == "end" else (row[0], row[1])

    def answer(self, thing):
        """Take an answer, no sign; whether it can be one to the wish."""
        row = self.program_rows[self.at] if self.at < len(self.program_rows) else ("end", 0)
        if self.wish[0] == "over":
            return False
        if thing is None:
            self.at = row[3] if self.wish[0] == "take" else self.at + 1
        elif self.wish[0] == "take" and is_line_of_signs(thing):
            self.lines[row[2]] = thing
            self.at = self.at + 1
        else:
            return False
        self.wish = self.next_wish()
        return True

    def hear(self, word):
        self.wish = ("over", sign_status(word))

    def joined(self, parts):
        texts = []
        for word, thing in parts:
            if word == "text":
                texts.append(thing)
            elif word == "line":
                texts.append(self.lines[thing])
            else:
                texts.append(figures_of(self.counters[thing]))
        return "".join(texts)[:LINE_SIGNS]

    def behind_inner(self, row):
        """Do an inner row; the number of the row that follows."""
        word = row[0]
        if word == "set":
            self.lines[row[1]] = self.joined(row[2])
        elif word == "field":
            fields = self.lines[row[2]].split()
            self.lines[row[1]] = fields[row[3] - 1] if row[3] <= len(fields) else ""
        elif word == "count":
            self.counters[row[1]] = self.counters[row[1]] + self.number(row[2])
        elif word == "keep":
            if len(self.shelf) < GREATEST_SHELF:
                self.shelf.append(self.joined(row[1]))
        else:
            return self.at + 1 if self.goes_on(row) else row[-1]
        return self.at + 1

    def goes_on(self, row):
        """Do an inner row that has a row to go to; whether the one behind it follows."""
        word = row[0]
        if word == "match":
            return self.has_match(row[1], self.lines[row[2]])
        if word == "same":
            return self.lines[row[1]] == self.lines[row[2]]
        if word == "less":
            return self.counters[row[1]] < self.number(row[2])
        if word == "jump" or len(self.shelf) == 0:
            return False
        place = 0 if word == "first" else self.shelf.index(min(self.shelf))
        self.lines[row[1]] = self.shelf.pop(place)
        return True

    def number(self, thing):
        return self.counters[thing] if isinstance(thing, str) else thing

    def has_match(self, text, line):
        if text not in self.moves:
            self.moves[text] = moves_of(read_pattern(text))
        return has_stretch(self.moves[text], line)


def worked(program_rows, answers):
    """The work of a program behind all its answers."""
    if not is_listed(answers):
        raise BadAnswers(0)
    work = Work(program_rows)
    for at, answer in enumerate(answers):
        if is_sign_answer(answer):
            work.hear(answer[1])
        elif not work.answer(answer):
            raise BadAnswers(at)
    return work


class ProgramActor:
    """The actor of a program; those of equal programs are equal."""

    def __init__(self, program):
        self.program_rows = program.rows()

    def __call__(self, answers):
        return worked(self.program_rows, answers).wish

    def __eq__(self, other):
        return isinstance(other, ProgramActor) and self.program_rows == other.program_rows


def actor_of(program):
    if not isinstance(program, Program):
        raise BadProgram(program)
    return ProgramActor(program)


def stand(program, answers):
    if not isinstance(program, Program):
        raise BadProgram(program)
    work = worked(program.rows(), answers)
    return (work.lines, work.counters, work.shelf)
