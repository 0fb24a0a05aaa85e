"""A second shell for tests, a generator that goes down through the script by calls: it yields wishes and is sent answers."""

import copy

from everypipe.actors import actor_of
from everypipe.callings import piece_of
from everypipe.expansion import assigned, expanded, glob_of
from everypipe.filetrees import resolved
from everypipe.givens import program_of
from everypipe.globs import is_taken
from everypipe.shellreading import read_script, script_fault
from everypipe.shellsums import sum_value
from everypipe.signs import leaving_out, sign_status


class Left(Exception):
    def __init__(self, word, many=1):
        self.word, self.many = word, many


class Ended(Exception):
    pass


class Bound(Exception):
    pass


class SecondShell:
    def __init__(self, pairs, arguments, starter=None, figures=(0, 1, 2)):
        self.pairs, self.is_child = pairs, starter is not None
        self.arguments = list(arguments)
        self.worth = dict(starter.worth) if starter else {}
        self.functions = dict(starter.functions) if starter else {}
        self.strict = starter.strict if starter else False
        self.left_out = set(starter.left_out) if starter else set()
        self.view = {n: n for n in figures}
        self.status, self.jobs, self.children, self.opened = 0, [], 0, set()
        self.traps, self.waiting, self.deaf, self.in_trap, self.exit_done = {}, [], False, False, False
        self.begun, self.loops, self.calls = 0, 0, 0

    def actor(self):
        """An actor that does all anew each time it is asked."""
        first = copy.copy(self)

        def told(answers):
            shell = SecondShell(first.pairs, first.arguments)
            shell.__dict__.update(copy.deepcopy({key: value for key, value in first.__dict__.items() if key != "pairs"}))
            going = shell.main()
            wish = next(going)
            for answer in answers:
                wish = going.send(answer)
            return wish
        return told

    def ask(self, make):
        while True:
            self.begun = 0
            answer = yield make()
            if not (isinstance(answer, tuple) and answer[0] == "sign"):
                return answer
            yield from self.hear(answer[1])

    def hear(self, sign):
        if self.deaf:
            return
        if self.in_trap:
            if sign not in self.waiting:
                self.waiting.append(sign)
            return
        waiting = [sign]
        while waiting:
            sign = waiting.pop(0)
            if sign in self.left_out:
                continue
            if sign not in self.traps:
                self.status = sign_status(sign)
                raise Ended
            yield from self.trap(sign)
            waiting += self.waiting
            self.waiting = []

    def trap(self, word):
        kept = (self.status, self.loops, self.calls)
        self.loops = self.calls = 0
        self.in_trap = True
        try:
            yield from self.list(self.traps[word])
        except Ended:
            self.deaf = True
            raise
        finally:
            self.in_trap = False
        self.status, self.loops, self.calls = kept

    def main(self):
        try:
            try:
                yield from self.list(self.pairs, self.is_child)
            except Ended:
                pass
            yield from self.end()
        except Bound:
            while True:
                yield ("over", 125)

    def end(self):
        while True:
            try:
                self.loops = self.calls = 0
                if not self.is_child:
                    yield from self.asked()
                if "exit" in self.traps and not self.exit_done:
                    self.exit_done = self.deaf = True
                    yield from self.trap("exit")
                yield from self.ask(lambda: self.no_exit_trap())
            except Ended:
                pass

    def no_exit_trap(self):
        if "exit" in self.traps and not self.exit_done:
            raise Ended
        return ("over", self.status)

    def asked(self):
        if not isinstance(self.status, int):
            self.status = yield from self.ask(lambda: ("ask", self.status[1]))
        return self.status

    def table(self):
        return {n: ("own", self.view[n]) for n in sorted(self.view)}

    def child(self, pairs, table):
        table = {n: table[n] for n in sorted(table)}
        return (SecondShell(pairs, self.arguments, self, list(table)).actor(), table)

    def begin(self, rows, own=None):
        """Start children; the number of the first one."""
        yield from self.ask(lambda: ("start", rows(), own() if own else {}))
        first = self.children
        self.children += len(rows())
        return first

    def new(self):
        return next(n for n in range(10, 99) if n not in self.opened)

    def list(self, pairs, is_own=False):
        for command, is_back in pairs:
            if is_back:
                first = yield from self.begin(lambda: [self.child([(command, False)], {n: lead for n, lead in self.table().items() if n != 0})])
                self.jobs.append([first, False])
                self.status = 0
            else:
                yield from self.command(command, is_own and len(pairs) == 1)

    def command(self, node, is_own=False):
        self.begun += 1
        if self.begun == 1000:
            raise Bound
        word = node[0]
        if word == "run":
            yield from self.run(node, is_own)
        elif word == "row":
            yield from self.row(node[1])
        elif word == "not":
            yield from self.command(node[1])
            yield from self.asked()
            self.status = int(self.status == 0)
        elif word in ("and", "or"):
            yield from self.command(node[1])
            yield from self.asked()
            if (self.status == 0) == (word == "and"):
                yield from self.command(node[2])
        elif word == "def":
            self.functions[node[1]] = node[2]
            self.status = 0
        else:
            yield from self.turned(node[-1], lambda: getattr(self, "do_" + word)(node))

    def row(self, commands):
        def rows():
            told = []
            for at, command in enumerate(commands):
                table = self.table()
                if at:
                    table[0] = ("new", at - 1, "take")
                if at < len(commands) - 1:
                    table[1] = ("new", at, "put")
                told.append(self.child([(command, False)], table))
            return told
        first = yield from self.begin(rows)
        numbers = list(range(first, first + len(commands)))
        for k in numbers:
            yield from self.ask(lambda: ("wait", k))
        self.status = ("child", numbers[-1])
        if self.strict:
            asked = []
            for k in numbers:
                asked.append((yield from self.ask(lambda: ("ask", k))))
            self.status = ([0] + [status for status in asked if status])[-1]

    def filled(self, kind, what):
        """The pair of what is told and of the child of the last out."""
        scope, answers, last = (dict(self.worth), list(self.arguments)), [], None
        while True:
            told = kind(what, scope, answers)
            if told[0] != "needs":
                return told, last
            need = told[1]
            if need[0] == "status":
                answers.append((yield from self.asked()))
            elif need[0] == "list":
                path = resolved("", need[1])
                answers.append(None if path is None else (yield from self.ask(lambda: ("list", path))))
            else:
                lines, last = yield from self.out(need[1])
                answers.append(lines)

    def out(self, pairs):
        lines, m = [], []

        def own():
            m[:] = [self.new()]
            return {m[0]: ("new", 0, "take")}
        k = yield from self.begin(lambda: [self.child(pairs, {**self.table(), 1: ("new", 0, "put")})], own)
        self.opened.add(m[0])
        while True:
            line = yield from self.ask(lambda: ("take", m[0]))
            if line is None:
                break
            lines.append(line)
        yield from self.ask(lambda: ("close", m[0]))
        self.opened.discard(m[0])
        yield from self.ask(lambda: ("wait", k))
        self.status = ("child", k)
        return lines, k

    def turned(self, turns, inside, note=lambda k: None):
        """Turns, then what is inside, then the closings; inside tells what comes behind these, or None."""
        view, opened, after = dict(self.view), [], None
        try:
            is_right = yield from self.turns(turns, opened, note)
            if is_right:
                after = yield from inside()
        except Left:
            yield from self.closings(view, opened)
            raise
        yield from self.closings(view, opened)
        if after:
            yield from after()

    def closings(self, view, opened):
        self.view = view
        for m in sorted(opened):
            yield from self.ask(lambda: ("close", m))
            self.opened.discard(m)

    def turns(self, turns, opened, note):
        for n, way, what in turns:
            if way in ("&", "-"):
                m = self.view.get(what)
            else:
                told, last = yield from self.filled(assigned, what)
                note(last)
                if told[0] == "refused":
                    self.status = 2
                    return False
                thing = (told[1].split("\n") if told[1] else []) if way == "<:" else resolved("", told[1])
                if thing is None:
                    self.status = 1
                    return False
                kind = {"<": "read", ">": "cut", ">>": "add", "<:": "lines"}[way]
                word = yield from self.ask(lambda: ("open", self.new(), thing, kind))
                if word:
                    self.status = 1
                    return False
                m = self.new()
                self.opened.add(m)
                opened.append(m)
            self.view = {other: lead for other, lead in self.view.items() if other != n}
            if m is not None:
                self.view[n] = m
        return True

    def run(self, node, is_own):
        _, sets, words, turns = node
        lasts, kept = [], {}
        told, last = yield from self.filled(expanded, words)
        lasts.append(last)
        if told[0] == "refused":
            self.status = 2
            return
        strings = told[1]
        try:
            yield from self.turned(turns, lambda: self.inside(sets, strings, lasts, kept, is_own), lasts.append)
        finally:
            if strings and not self.is_over:
                for name, text in kept.items():
                    if text is None:
                        self.worth.pop(name, None)
                    else:
                        self.worth[name] = text

    is_over = False

    def inside(self, sets, strings, lasts, kept, is_own):
        for name, word in sets:
            told, last = yield from self.filled(assigned, word)
            lasts.append(last)
            if told[0] == "refused":
                self.status = 2
                return None
            kept.setdefault(name, self.worth.get(name))
            self.worth[name] = told[1]
        if not strings:
            found = [k for k in lasts if k is not None]
            self.status = ("child", found[-1]) if found else 0
        elif strings[0] in self.functions:
            yield from self.call(strings)
        elif strings[0] in "say read is leave next return exit shift forget strict wait trap kill".split():
            found = yield from getattr(self, "word_" + {"next": "leave"}.get(strings[0], strings[0]))(strings)
            if found is False:
                self.status = 2
        elif piece_of(strings) is None:
            self.status = 127
        else:
            actor = actor_of(program_of(piece_of(strings)))
            heard = lambda: leaving_out(actor, sorted(self.left_out)) if self.left_out else actor
            if is_own:
                yield from self.ask(lambda: ("become", heard(), self.table()))
            k = yield from self.begin(lambda: [(heard(), self.table())])
            return lambda: self.waited(k)
        return None

    def waited(self, k):
        yield from self.ask(lambda: ("wait", k))
        self.status = ("child", k)

    def call(self, strings):
        if self.calls == 30:
            self.status = 125
            return
        kept = (self.arguments, self.loops, self.calls)
        self.arguments, self.loops, self.calls = strings[1:], 0, self.calls + 1
        try:
            yield from self.list(self.functions[strings[0]])
        except Left as left:
            if left.word != "return":
                raise
        self.arguments, self.loops, self.calls = kept

    def do_group(self, node):
        yield from self.list(node[1])

    def do_sub(self, node):
        k = yield from self.begin(lambda: [self.child(node[1], self.table())])
        return lambda: self.waited(k)

    def do_if(self, node):
        yield from self.list(node[1])
        if (yield from self.asked()) == 0:
            yield from self.list(node[2])
        elif node[3] is not None:
            yield from self.list(node[3])
        else:
            self.status = 0

    def loop(self, inside):
        """Whether a loop goes on behind what is inside."""
        self.loops += 1
        loops = self.loops
        try:
            yield from inside()
        except Left as left:
            if left.word == "return":
                raise
            if left.many > 1:
                raise Left(left.word, left.many - 1)
            return left.word == "next"
        finally:
            self.loops = loops - 1
        return None

    def do_while(self, node):
        status = 0
        while True:
            told = yield from self.loop(lambda: self.list(node[1]))
            if told is True:
                continue
            if told is False:
                break
            if (yield from self.asked()) != 0:
                break
            told = yield from self.loop(lambda: self.list(node[2]))
            status = self.status
            if told is False:
                break
        self.status = status

    def do_for(self, node):
        told, _ = yield from self.filled(expanded, node[2])
        if told[0] == "refused":
            self.status = 2
            return
        if not told[1]:
            self.status = 0
        for string in told[1]:
            self.worth[node[1]] = string
            if (yield from self.loop(lambda: self.list(node[3]))) is False:
                break

    def do_case(self, node):
        told, _ = yield from self.filled(assigned, node[1])
        if told[0] == "refused":
            self.status = 2
            return
        text = told[1].replace("\n", " ")
        for words, pairs in node[2]:
            for word in words:
                found, _ = yield from self.filled(glob_of, word)
                if found[0] == "refused":
                    self.status = 2
                    return
                if is_taken(found[1], text) or (text.startswith(".") and is_taken(["x", *found[1]], "x" + text)):
                    yield from self.list(pairs)
                    return
        self.status = 0

    def number(self, text):
        return int(text) if 1 <= len(text) <= 3 and all(sign in "0123456789" for sign in text) and int(text) < 256 else None

    def word_say(self, strings):
        for line in " ".join(strings[1:]).split("\n"):
            if 1 in self.view:
                yield from self.ask(lambda: ("put", self.view[1], line[:60]))
        self.status = 0

    def names(self, strings):
        from everypipe.kinds import is_name
        return len(strings) > 1 and all(is_name(name) for name in strings[1:])

    def word_read(self, strings):
        if not self.names(strings):
            return False
        line = (yield from self.ask(lambda: ("take", self.view[0]))) if 0 in self.view else None
        parts = (line or "").strip(" ").split(" ")
        for name in strings[1:-1]:
            while len(parts) > 1 and parts[0] == "":
                del parts[0]
            self.worth[name] = parts.pop(0) if parts else ""
        self.worth[strings[-1]] = " ".join(parts).strip(" ")
        self.status = int(line is None)

    def word_is(self, strings):
        rest = strings[1:]
        if len(rest) == 1:
            self.status = int(rest[0] == "")
        elif len(rest) == 2 and rest[0] in ("file", "directory"):
            path = resolved("", rest[1])
            kind = None if path is None else (yield from self.ask(lambda: ("look", path)))
            self.status = int(kind != rest[0])
        elif len(rest) == 3 and rest[1] in ("=", "!="):
            self.status = int((rest[0] == rest[2]) != (rest[1] == "="))
        elif len(rest) == 3 and rest[1] == "less":
            told = sum_value(("<", ("name", "a"), ("name", "b")), {"a": rest[0], "b": rest[2]})
            if told[0] == "refused":
                return False
            self.status = 1 - told[1]
        else:
            return False
        yield from ()

    def word_leave(self, strings):
        number = 1 if len(strings) == 1 else self.number(strings[1])
        if len(strings) > 2 or not number:
            return False
        self.status = 0 if self.loops else 1
        if self.loops:
            raise Left(strings[0], min(number, self.loops))
        yield from ()

    def told_status(self, strings):
        """The pair of whether a word is as it has to be, and of the status that it tells, None for none."""
        number = None if len(strings) == 1 else self.number(strings[1])
        return len(strings) == 1 or (len(strings) == 2 and number is not None), number

    def word_return(self, strings):
        is_right, number = self.told_status(strings)
        if not is_right:
            return False
        if not self.calls:
            self.status = 1
            return None
        self.status = self.status if number is None else number
        raise Left("return")
        yield from ()

    def word_exit(self, strings):
        is_right, number = self.told_status(strings)
        if not is_right:
            return False
        self.status = self.status if number is None else number
        raise Ended
        yield from ()

    def word_shift(self, strings):
        if len(strings) > 1:
            return False
        self.status = int(not self.arguments)
        self.arguments = self.arguments[1:]
        yield from ()

    def word_forget(self, strings):
        if not self.names(strings):
            return False
        for name in strings[1:]:
            self.worth.pop(name, None)
        self.status = 0
        yield from ()

    def word_strict(self, strings):
        if len(strings) != 2 or strings[1] not in ("on", "off"):
            return False
        self.strict = strings[1] == "on"
        self.status = 0
        yield from ()

    def word_wait(self, strings):
        if len(strings) == 1:
            for job in [job for job in self.jobs if not job[1]]:
                yield from self.ask(lambda: ("wait", job[0]))
                job[1] = True
            self.status = 0
            return None
        number = self.number(strings[1])
        if len(strings) > 2 or number is None:
            return False
        self.status = 127
        if 1 <= number <= len(self.jobs):
            yield from self.ask(lambda: ("wait", self.jobs[number - 1][0]))
            self.jobs[number - 1][1] = True
            self.status = ("child", self.jobs[number - 1][0])
        return None

    def word_trap(self, strings):
        if len(strings) != 3 or strings[2] not in ("int", "term", "exit"):
            return False
        _, text, word = strings
        if text not in ("", "-") and script_fault(text) is not None:
            return False
        self.traps.pop(word, None)
        self.left_out.discard(word)
        if text == "" and word != "exit":
            self.left_out.add(word)
        elif text not in ("", "-"):
            self.traps[word] = read_script(text)
        self.status = 0
        yield from ()

    def word_kill(self, strings):
        if len(strings) != 3 or strings[1] not in ("int", "kill", "term") or self.number(strings[2]) is None:
            return False
        number = self.number(strings[2])
        self.status = 1
        if 1 <= number <= len(self.jobs):
            yield from self.ask(lambda: ("signal", self.jobs[number - 1][0], strings[1]))
            self.status = 0
        return None
