"""The reader's frame of a sum: behind "$((", up to its "))"."""

from everypipe.kinds import FIGURES, LETTERS
from everypipe.readingframes import AGAIN, ON, WRONG

RANKS = {"<": 1, "<=": 1, "=": 1, "+": 2, "-": 2, "*": 3, "/": 3, "~": 3}


class SumFrame:
    """Sums and signs wait on two stacks till the rank of what follows tells that they go together.

    stage is "first" where a sum or a "-" ahead of one may stand, "least" behind this "-",
    "behind" behind a sum, "less" behind a "<" that may go on, "closing" within "))".
    """

    def __init__(self):
        self.sums = []
        self.pending = []
        self.stage = "first"
        self.figures = ""
        self.letters = ""

    def take(self, reader, sign):
        if self.figures != "" or self.letters != "":
            code = self.take_more(sign)
            if code != AGAIN:
                return code
        if self.stage == "closing":
            if sign != ")":
                return WRONG
            self.join_down_to(0)
            reader.done(self.sums[0])
            return ON
        if self.stage == "less":
            self.put_sign("<=" if sign == "=" else "<")
            if sign == "=":
                return ON
        if sign == " ":
            return ON
        if self.stage == "behind":
            return self.take_behind(sign)
        return self.take_first(sign)

    def take_more(self, sign):
        """A sign behind the figures or the letters of what may go on; AGAIN if it does not."""
        if self.figures != "" and sign in FIGURES:
            if self.figures == "0" or len(self.figures) == 9:
                return WRONG
            self.figures = self.figures + sign
            return ON
        if self.letters != "" and sign in LETTERS + FIGURES:
            if len(self.letters) == 8:
                return WRONG
            self.letters = self.letters + sign
            return ON
        if self.figures != "":
            self.put_sum(("number", int(self.figures)))
        else:
            self.put_sum(("name", self.letters))
        self.figures = ""
        self.letters = ""
        return AGAIN

    def take_first(self, sign):
        if sign in FIGURES:
            self.figures = sign
        elif sign in LETTERS:
            self.letters = sign
        elif sign == "(":
            self.pending.append("(")
            self.stage = "first"
        elif sign == "-" and self.stage == "first":
            self.pending.append("less")
            self.stage = "least"
        else:
            return WRONG
        return ON

    def take_behind(self, sign):
        if sign == "<":
            self.stage = "less"
        elif sign in RANKS:
            self.put_sign(sign)
        elif sign == ")" and "(" in self.pending:
            self.join_down_to(0)
            self.pending.pop()
            self.put_sum(self.sums.pop())
        elif sign == ")":
            self.stage = "closing"
        else:
            return WRONG
        return ON

    def put_sum(self, total):
        """Put a number, a name, or what stood in brackets, with the "-" that is ahead of it."""
        if len(self.pending) > 0 and self.pending[-1] == "less":
            self.pending.pop()
            total = ("less", total)
        self.sums.append(total)
        self.stage = "behind"

    def put_sign(self, sign):
        self.join_down_to(RANKS[sign])
        self.pending.append(sign)
        self.stage = "first"

    def join_down_to(self, rank):
        """Join what waits, up to a bracket, and has this rank or a greater one."""
        while len(self.pending) > 0 and self.pending[-1] != "(" and RANKS[self.pending[-1]] >= rank:
            other = self.sums.pop()
            one = self.sums.pop()
            self.sums.append((self.pending.pop(), one, other))

    def hint(self):
        if self.figures == "" and self.letters == "" and self.stage != "behind" and self.stage != "closing":
            return "1"
        return ")"
