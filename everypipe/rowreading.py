"""Texts of rows of deeds read sign by sign, up to the first wrong one."""

from everypipe.kinds import FIGURES, LETTERS, LINE_SIGNS, SIGNS

NAME_SIGNS = 8
GREATEST_NUMBER = 10 ** 19 - 1
GREATEST_STATUS = 255
SIDES = ("take", "put")
KINDS = ("file", "directory", "none")
WORDS = (
    "take", "heard", "put", "broken", "read", "done", "write", "cut", "make", "list", "find", "drop", "start", "become",
    "wait", "ask", "over", "signal", "trap",
)


class WrongSign(Exception):
    """The text goes on otherwise than any text does, at a place, from 0."""

    def __init__(self, place):
        self.place = place


class RowReader:
    """at is the place of the next sign; each method goes on behind what it reads."""

    def __init__(self, text):
        self.text = text
        self.at = 0

    def here(self):
        """The next sign, "" at the end."""
        return self.text[self.at:self.at + 1]

    def is_at(self, sign):
        return self.here() == sign

    def is_among(self, signs):
        return self.here() != "" and self.here() in signs

    def skip(self, text):
        for sign in text:
            if not self.is_at(sign):
                raise WrongSign(self.at)
            self.at += 1

    def read_word(self, words):
        """One of some words, none of which is the beginning of another one."""
        begin = self.at
        while self.text[begin:self.at] not in words:
            longer = self.text[begin:self.at + 1]
            if self.is_at("") or not any([word.startswith(longer) for word in words]):
                raise WrongSign(self.at)
            self.at += 1
        return self.text[begin:self.at]

    def read_number_to(self, most):
        """A number, as many figures of it as can stand there."""
        if not self.is_among(FIGURES):
            raise WrongSign(self.at)
        number = int(self.here())
        self.at += 1
        while number > 0 and self.is_among(FIGURES) and number * 10 + int(self.here()) <= most:
            number = number * 10 + int(self.here())
            self.at += 1
        return number

    def read_number(self):
        return self.read_number_to(GREATEST_NUMBER)

    def read_status(self):
        return self.read_number_to(GREATEST_STATUS)

    def read_more_numbers(self):
        numbers = []
        while self.is_at("."):
            self.at += 1
            numbers.append(self.read_number())
        return numbers

    def read_name(self):
        """The name of a process or a pipe."""
        first = self.read_number()
        more = self.read_more_numbers()
        return (first, *more)

    def read_name_or_none(self):
        if self.is_at("-"):
            self.at += 1
            return None
        return self.read_name()

    def read_handle(self):
        if self.is_at("-"):
            self.skip("-1.")
            return (-1, self.read_number())
        first = self.read_number()
        self.skip(".")
        more = self.read_name()
        return (first, *more)

    def read_file_name(self):
        begin = self.at
        if not self.is_among(LETTERS):
            raise WrongSign(self.at)
        while self.is_among(LETTERS + FIGURES) and self.at - begin < NAME_SIGNS:
            self.at += 1
        return self.text[begin:self.at]

    def read_path(self):
        self.skip("/")
        if not self.is_among(LETTERS):
            return ""
        names = [self.read_file_name()]
        while self.is_at("/"):
            self.at += 1
            names.append(self.read_file_name())
        return "/".join(names)

    def read_path_or_none(self):
        if self.is_at("-"):
            self.at += 1
            return None
        return self.read_path()

    def read_line(self):
        """A line with what stands ahead of it."""
        self.skip(" = ")
        begin = self.at
        while self.is_among(SIGNS) and self.at - begin < LINE_SIGNS:
            self.at += 1
        return self.text[begin:self.at]
