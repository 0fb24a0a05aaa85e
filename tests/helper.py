"""What several tests share: objects of all kinds, made-up trees of all sorts, and a second reader of scripts.

The second reader goes down through a text by calls. It knows nothing of first wrong signs: it
only tells the script of a text or raises Unread, and so it checks the package's reader.
"""

import random

from everypipe.errors import BadLine, PipeError

PLAIN = "*+,-./0123456789:=?@ABCDEFGHIJKLMNOPQRSTUVWXYZ[]^_abcdefghijklmnopqrstuvwxyz~"
SIGNS = "".join(chr(code) for code in range(32, 127) if code != 37)
KEPT = "if then else end while do for case when def".split()
NAMES = ["a", "b", "x", "ab", "x1", "abcdefgh"]


def fifty_deep(inside):
    thing = inside
    for at in range(49):
        thing = [thing] if at % 2 else (thing,)
    return thing


def any_objects():
    """Objects of all kinds that may be handed to what takes any object."""
    deep = {}
    for _ in range(49):
        deep = {"a": deep}
    return [
        0, 1, -1, 7, True, False, "", "a", "ab", "%", "\u00e9", "\n", "a b", None, [], (), {}, [[]], ((),), ["a"],
        ("a",), {"a": 1}, {1: "a"}, {("a",): []}, {"a": ["x"]}, len, fifty_deep, PipeError(), BadLine("x"),
        fifty_deep(1), fifty_deep("a"), fifty_deep([]), deep, [None], [True], [1, 2], ("none",), ["of", "a"], [("a", "b")],
        ("run",), ("run", 1, 2, 3), [("run", [], [], []), False], [(("run", [], [], []), False)], ("of", None),
        [("held", "")], [("held", None)], [("plain", "")], [[("held", "a")]], ((1,), 0, "int"), [((1,), 0, "int")],
        [((True,), 0, "int")], [((0,), 0, ["int"])], [["x"], {}], ({}, []), ("row",), ("row", 1, 2), ("often",), {"a": None},
        [((), 0, "int")], [(None, None, None)], [1, ("one",)], (("one",), ("some",)), [("of", "ba")], range, Exception,
    ]


def is_alike(one, other):
    """Whether two things are equal, of the same kinds throughout, and dicts in the same order."""
    if type(one) is not type(other):
        return False
    if isinstance(one, (list, tuple)):
        return len(one) == len(other) and all(is_alike(a, b) for a, b in zip(one, other))
    if isinstance(one, dict):
        return list(one) == list(other) and all(is_alike(one[key], other[key]) for key in one)
    return one == other


def changed(thing):
    """The same with lists for tuples and tuples for lists."""
    if isinstance(thing, list):
        return tuple(changed(inside) for inside in thing)
    if isinstance(thing, tuple):
        return [changed(inside) for inside in thing]
    if isinstance(thing, dict):
        return {key: changed(inside) for key, inside in thing.items()}
    return thing


def lists_in(thing):
    """All lists and dicts within a thing, the same one as often as it stands there."""
    found = [thing] if isinstance(thing, (list, dict)) else []
    if isinstance(thing, (list, tuple)):
        found += [one for inside in thing for one in lists_in(inside)]
    if isinstance(thing, dict):
        found += [one for inside in thing.values() for one in lists_in(inside)]
    return found


def is_new(told, *passed):
    """Whether no list or dict in what is told is in it twice, or in what was passed."""
    marks = [id(one) for one in lists_in(told)]
    old = {id(one) for thing in passed for one in lists_in(thing)}
    return len(marks) == len(set(marks)) and not any(mark in old for mark in marks)


class Maker:
    """Makes up scripts, words, sums, patterns, trees and lines, the same ones for the same seed."""

    def __init__(self, seed):
        self.random = random.Random(seed)

    def pick(self, things):
        return self.random.choice(things)

    def some(self, make, least, most):
        return [make() for _ in range(self.random.randint(least, most))]

    def chance(self, percent):
        return self.random.randrange(100) < percent

    def name(self):
        return self.pick(NAMES)

    def text(self, most=4):
        return "".join(self.some(lambda: self.pick("ab \"\\$'\n;&|#`{}()!~%".replace("%", "*")), 0, most))

    def line(self, most=6):
        return "".join(self.some(lambda: self.pick("ab cx.\\*"), 0, most))

    def plain(self):
        return "".join(self.some(lambda: self.pick("ab2=:*?[]-@" + PLAIN), 1, 3))

    def sum(self, depth=3):
        if depth == 0 or self.chance(30):
            return self.pick([("number", self.pick([0, 1, 7, 12, 999999999])), ("name", self.name())])
        if self.chance(20):
            return ("less", self.sum(depth - 1))
        return (self.pick(["+", "-", "*", "/", "~", "<", "<=", "="]), self.sum(depth - 1), self.sum(depth - 1))

    def piece(self, depth):
        figure = self.pick("123456789")
        word = self.pick(["plain", "held", "value", "size", "else", "out", "sum"] if depth else ["plain", "held", "value"])
        if word == "plain":
            return ("plain", self.plain())
        if word == "held":
            return ("held", self.text())
        is_held = self.chance(50)
        if word == "value":
            return ("value", self.pick([self.name(), figure, "?", "#"]), is_held)
        if word == "size":
            return ("size", self.pick([self.name(), figure]), is_held)
        if word == "else":
            return ("else", self.pick([self.name(), figure]), self.word(depth - 1, 0), is_held)
        if word == "out":
            return ("out", self.list(depth - 1), is_held)
        return ("sum", self.sum(), is_held)

    def word(self, depth=1, least=1):
        pieces = []
        for _ in range(self.random.randint(least, 3)):
            piece = self.piece(depth)
            if pieces and piece[0] in ("plain", "held") and pieces[-1][0] == piece[0]:
                continue
            if pieces and (pieces[-1] == ("held", "") and piece[-1] is True):
                continue
            if pieces and (piece == ("held", "") and pieces[-1][-1] is True):
                continue
            pieces.append(piece)
        return pieces

    def free(self, depth=1):
        return [("all",)] if self.chance(10) else self.word(depth)

    def turn(self, depth):
        way = self.pick(["<", ">", ">>", "<:", "&", "-"])
        n = self.random.randrange(10)
        if way == "&":
            return (n, way, self.random.randrange(10))
        return (n, way, None if way == "-" else self.word(depth))

    def run(self, depth):
        while True:
            sets = self.some(lambda: (self.name(), self.word(depth, 0)), 0, 1 + self.chance(20))
            words = self.some(lambda: self.free(depth), 0, 3)
            turns = self.some(lambda: self.turn(depth), 0, 1 + self.chance(20))
            if not sets + words + turns:
                continue
            if words and words[0][0][0] == "plain":
                text = words[0][0][1]
                if "=" in text or (not sets and len(words[0]) == 1 and text in KEPT):
                    continue
            return ("run", sets, words, turns)

    def bare(self, depth):
        """A command that may stand in a row."""
        if depth == 0 or self.chance(40):
            return self.run(depth)
        word = self.pick(["group", "sub", "if", "while", "for", "case", "def"])
        turns = self.some(lambda: self.turn(depth - 1), 0, 1)
        one, two = self.list(depth - 1), self.list(depth - 1)
        if word in ("group", "sub"):
            return (word, one, turns)
        if word == "if":
            return (word, one, two, self.pick([None, self.list(depth - 1)]), turns)
        if word == "while":
            return (word, one, two, turns)
        if word == "for":
            return (word, self.name(), self.some(lambda: self.free(depth - 1), 0, 2), one, turns)
        if word == "case":
            rows = self.some(lambda: (self.some(lambda: self.word(depth - 1), 1, 2), self.list(depth - 1)), 1, 2)
            return (word, self.word(depth - 1), rows, turns)
        return (word, self.name(), one)

    def unchained(self, depth):
        command = ("row", self.some(lambda: self.bare(depth), 2, 3)) if self.chance(15) else self.bare(depth)
        return ("not", command) if self.chance(10) else command

    def command(self, depth):
        command = self.unchained(depth)
        for _ in range(self.random.randint(0, 2) if self.chance(30) else 0):
            command = (self.pick(["and", "or"]), command, self.unchained(depth))
        return command

    def list(self, depth=1):
        return self.some(lambda: (self.command(depth), self.chance(20)), 1, 2)

    def script(self, depth=2):
        return self.some(lambda: (self.command(depth), self.chance(20)), 0, 3)

    def pattern(self, depth=3):
        if depth == 0 or self.chance(25):
            return self.pick([("none",), ("empty",), ("any",), ("of", "a"), ("of", "b"), ("of", "ab"), ("of", "-]"),
                              ("of", SIGNS[1:]), ("of", "!\\")])
        word = self.pick(["row", "row", "either", "either", "often"])
        if word == "often":
            return ("often", self.pattern(depth - 1))
        return (word, self.pattern(depth - 1), self.pattern(depth - 1))

    def glob(self):
        return self.some(lambda: self.pick(["a", "b", ".", "/", ("one",), ("some",), ("of", "ab"), ("of", ".")]), 0, 4)

    def tree(self, depth=3):
        tree = {}
        for name in self.some(lambda: self.pick(["a", "b", "c", "a1", "d"]), 0, 3):
            tree[name] = self.tree(depth - 1) if depth and self.chance(50) else self.some(self.line, 0, 2)
        return tree


class Unread(Exception):
    pass


class Reader:
    def __init__(self, text):
        self.text = text
        self.at = 0

    def here(self):
        return self.text[self.at:self.at + 1] or "END"

    def starts(self, word):
        return self.text.startswith(word, self.at)

    def need(self, word):
        if not self.starts(word):
            raise Unread
        self.at += len(word)

    def blanks(self):
        while self.here() == " ":
            self.at += 1

    def remark(self):
        if self.here() == "#":
            while self.here() not in ("\n", "END"):
                self.at += 1

    def lines(self):
        while self.here() in (" ", "\n", "#"):
            self.remark()
            self.at += self.here() != "END"

    def begins_word(self):
        return self.here() in list(PLAIN) + ["'", "\"", "\\", "$"]

    def plain_word(self):
        """The whole word of plain signs that stands here, "" if none does."""
        end = self.at
        while end < len(self.text) and self.text[end] in PLAIN:
            end += 1
        return "" if self.text[end:end + 1] in ("'", "\"", "\\", "$") else self.text[self.at:end]

    def kept(self, word):
        if self.plain_word() != word:
            raise Unread
        self.at += len(word)

    def name(self):
        end = self.at
        while self.text[end:end + 1] and self.text[end] in "abcdefghijklmnopqrstuvwxyz0123456789":
            end += 1
        name = self.text[self.at:end]
        if not 1 <= len(name) <= 8 or name[0] in "0123456789":
            raise Unread
        self.at = end
        return name

    def script(self):
        pairs = self.list(["END"], False)
        if self.at != len(self.text):
            raise Unread
        return pairs

    def at_closer(self, closers):
        return self.here() in closers or self.plain_word() in closers

    def list(self, closers, is_full=True):
        self.lines()
        pairs = []
        is_open = True
        while not self.at_closer(closers):
            if not is_open:
                raise Unread
            command = self.chain()
            self.blanks()
            self.remark()
            is_open = self.here() in (";", "\n", "&")
            pairs.append((command, self.here() == "&"))
            self.at += is_open
            if is_open:
                self.lines()
        if is_full and not pairs or (not is_open and self.here() not in (")", "}", "END")):
            raise Unread
        return pairs

    def chain(self):
        command = self.negated()
        self.blanks()
        while self.starts("&&") or self.starts("||"):
            word = "and" if self.here() == "&" else "or"
            self.at += 2
            self.lines()
            command = (word, command, self.negated())
            self.blanks()
        return command

    def negated(self):
        if self.here() == "!":
            self.at += 1
            self.blanks()
            return ("not", self.row())
        return self.row()

    def row(self):
        commands = [self.one()]
        self.blanks()
        while self.here() == "|" and not self.starts("||"):
            self.at += 1
            self.lines()
            commands.append(self.one())
            self.blanks()
        return commands[0] if len(commands) == 1 else ("row", commands)

    def one(self):
        word = self.plain_word()
        if self.here() == "{":
            self.at += 1
            return ("group", self.closed("}"), self.turns())
        if self.here() == "(":
            self.at += 1
            return ("sub", self.closed(")"), self.turns())
        if word not in KEPT:
            return self.run()
        self.at += len(word)
        if word == "if":
            return self.condition()
        if word == "while":
            return ("while", self.ended("do"), self.ended("end"), self.turns())
        if word == "for":
            return self.loop()
        if word == "case":
            return self.cases()
        if word == "def":
            self.blanks()
            name = self.name()
            self.blanks()
            self.need("{")
            return ("def", name, self.closed("}"))
        raise Unread

    def closed(self, closer):
        pairs = self.list([closer])
        self.need(closer)
        return pairs

    def ended(self, *words):
        pairs = self.list(list(words))
        self.closer = self.plain_word()
        self.at += len(self.closer)
        return pairs

    def condition(self):
        one, two = self.ended("then"), self.ended("else", "end")
        three = self.ended("end") if self.closer == "else" else None
        return ("if", one, two, three, self.turns())

    def line_end(self):
        self.blanks()
        self.remark()
        if self.here() not in (";", "\n"):
            raise Unread
        self.at += 1
        self.lines()

    def loop(self):
        self.blanks()
        name = self.name()
        self.blanks()
        self.kept("in")
        words = []
        self.blanks()
        while self.begins_word():
            words.append(self.word(True))
            self.blanks()
        self.line_end()
        self.kept("do")
        return ("for", name, words, self.ended("end"), self.turns())

    def cases(self):
        self.blanks()
        word = self.word(False)
        self.line_end()
        self.kept("when")
        rows = []
        while not rows or self.closer == "when":
            self.blanks()
            words = [self.word(False)]
            self.blanks()
            while self.here() == "|":
                self.at += 1
                self.blanks()
                words.append(self.word(False))
                self.blanks()
            self.line_end()
            self.kept("do")
            rows.append((words, self.ended("when", "end")))
        return ("case", word, rows, self.turns())

    def turns(self):
        turns = []
        while True:
            self.blanks()
            if not self.is_turn():
                return turns
            turns.append(self.turn())

    def is_turn(self):
        ahead = self.text[self.at:self.at + 2]
        return ahead[:1] in ("<", ">") or (ahead[:1] in list("0123456789") and ahead[1:] in ("<", ">"))

    def turn(self):
        n = None
        if self.here() not in ("<", ">"):
            n = int(self.here())
            self.at += 1
        way = [word for word in ("<:", ">>", ">&", "<", ">") if self.starts(word)][0]
        self.at += len(way)
        if n is None:
            n = 0 if way[0] == "<" else 1
        if way != ">&":
            self.blanks()
            return (n, way, self.word(False))
        figure = self.here()
        if figure not in list("-0123456789"):
            raise Unread
        self.at += 1
        if self.begins_word():
            raise Unread
        return (n, "-", None) if figure == "-" else (n, "&", int(figure))

    def run(self):
        sets, words, turns = [], [], []
        while True:
            self.blanks()
            if self.is_turn():
                turns.append(self.turn())
            elif not self.begins_word():
                break
            else:
                begin = self.at
                plain = self.plain_word()
                word = self.word(True)
                name, sign, rest = word[0][1].partition("=") if word[0][0] == "plain" else ("", "", "")
                if not words and sign and self.is_name(name):
                    sets.append((name, ([("plain", rest)] if rest else []) + word[1:]))
                    continue
                if not words and not sets and plain in KEPT and self.text[begin:self.at] == plain:
                    raise Unread
                words.append(word)
        if not sets + words + turns:
            raise Unread
        return ("run", sets, words, turns)

    def is_name(self, name):
        inner = Reader(name)
        try:
            return inner.name() == name
        except Unread:
            return False

    def word(self, can_be_all, is_bare=False):
        if self.starts("$@") and can_be_all:
            self.at += 2
            if self.begins_word():
                raise Unread
            return [("all",)]
        pieces = []
        while self.begins_word():
            sign = self.here()
            if sign == "$":
                pieces.append(self.dollar(False))
                continue
            self.at += 1
            if sign == "\\":
                pieces.append(("held", self.escaped(SIGNS)))
            elif sign == "'":
                end = self.text.find("'", self.at)
                if end < 0:
                    raise Unread
                pieces.append(("held", self.text[self.at:end]))
                self.at = end + 1
            elif sign == "\"":
                pieces += self.double()
            else:
                pieces.append(("plain", sign))
        if not pieces and not is_bare:
            raise Unread
        return self.tidied(pieces)

    def escaped(self, signs):
        sign = self.here()
        if sign not in list(signs):
            raise Unread
        self.at += 1
        return sign

    def double(self):
        pieces = [("held", "")]
        while self.here() != "\"":
            sign = self.here()
            if sign == "$":
                pieces.append(self.dollar(True))
                continue
            self.at += 1
            if sign == "END":
                raise Unread
            pieces.append(("held", self.escaped("\"\\$") if sign == "\\" else sign))
        self.at += 1
        return pieces

    def tidied(self, pieces):
        joined = []
        for piece in pieces:
            if joined and piece[0] in ("plain", "held") and joined[-1][0] == piece[0]:
                joined[-1] = (piece[0], joined[-1][1] + piece[1])
            else:
                joined.append(piece)
        marks = [piece[-1] is True for piece in joined]
        return [piece for at, piece in enumerate(joined)
                if piece != ("held", "") or not any(marks[max(0, at - 1):at + 2])]

    def dollar(self, is_held):
        self.need("$")
        sign = self.here()
        if sign in list("123456789?#"):
            self.at += 1
            return ("value", sign, is_held)
        if self.starts("(("):
            self.at += 2
            total = self.level(0)
            self.blanks()
            self.need("))")
            return ("sum", total, is_held)
        if sign == "(":
            self.at += 1
            return ("out", self.closed(")"), is_held)
        if sign != "{":
            return ("value", self.name(), is_held)
        self.at += 1
        word = "value"
        if self.here() == "#":
            word = "size"
            self.at += 1
        parameter = self.here()
        if parameter in list("123456789"):
            self.at += 1
        else:
            parameter = self.name()
        if word == "value" and self.starts(":-"):
            self.at += 2
            other = self.word(False, True)
            self.need("}")
            return ("else", parameter, other, is_held)
        self.need("}")
        return (word, parameter, is_held)

    def level(self, rank):
        if rank == 3:
            return self.least()
        total = self.level(rank + 1)
        while True:
            self.blanks()
            signs = [["<=", "<", "="], ["+", "-"], ["*", "/", "~"]][rank]
            found = [sign for sign in signs if self.starts(sign)]
            if not found:
                return total
            self.at += len(found[0])
            total = (found[0], total, self.level(rank + 1))

    def least(self, can_be_less=True):
        self.blanks()
        if self.here() == "-" and can_be_less:
            self.at += 1
            return ("less", self.least(False))
        if self.here() == "(":
            self.at += 1
            total = self.level(0)
            self.blanks()
            self.need(")")
            return total
        if self.here() not in list("0123456789"):
            return ("name", self.name())
        figures = ""
        while self.here() in list("0123456789"):
            figures += self.here()
            self.at += 1
        if len(figures) > 9 or (figures[0] == "0" and figures != "0"):
            raise Unread
        return ("number", int(figures))


def read_again(text):
    """The script of a text as the second reader tells it, None if it is none."""
    if any(sign not in SIGNS + "\n" for sign in text):
        return None
    try:
        return Reader(text).script()
    except Unread:
        return None
