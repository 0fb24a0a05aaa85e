"""The words that a shell does itself. Each is a function of the shell and all strings; False if they are not so."""

from everypipe.filetrees import resolved
from everypipe.kinds import FIGURES, LINE_SIGNS, is_name, is_string_of
from everypipe.shellreading import read_script, script_fault
from everypipe.shellsums import number_of
from everypipe.signs import is_sign_word

TRAPPED = ("int", "term", "exit")


def told_number(text):
    """The number to 255 that one to three figures tell, None for all else."""
    if not 1 <= len(text) <= 3 or not is_string_of(text, FIGURES):
        return None
    return int(text) if int(text) <= 255 else None


class SayFrame:
    def __init__(self, lines):
        self.lines = lines
        self.at = 0

    def go(self, shell):
        n = shell.view.get(1, None)
        if n is None or self.at == len(self.lines):
            shell.last_status = 0
            shell.drop()
        else:
            shell.tell(("put", n, self.lines[self.at]))

    def answered(self, shell, answer):
        self.at = self.at + 1


class ReadFrame:
    def __init__(self, names):
        self.parameters = names

    def go(self, shell):
        n = shell.view.get(0, None)
        if n is None:
            self.answered(shell, None)
        else:
            shell.tell(("take", n))

    def answered(self, shell, line):
        rest = "" if line is None else line
        for at, name in enumerate(self.parameters):
            rest = rest.strip(" ")
            if at < len(self.parameters) - 1:
                shell.worths[name], _, rest = rest.partition(" ")
            else:
                shell.worths[name] = rest
        shell.last_status = 1 if line is None else 0
        shell.drop()


class LookFrame:
    def __init__(self, kind, path):
        self.kind = kind
        self.path = path

    def go(self, shell):
        shell.tell(("look", self.path))

    def answered(self, shell, kind):
        shell.last_status = 0 if kind == self.kind else 1
        shell.drop()


class WaitFrame:
    """Some children are waited for; status is the shell's then."""

    def __init__(self, children, status):
        self.children = children
        self.last_status = status

    def go(self, shell):
        if len(self.children) == 0:
            shell.last_status = self.last_status
            shell.drop()
        else:
            shell.tell(("wait", self.children[0]))

    def answered(self, shell, answer):
        shell.waited[self.children.pop(0)] = True


class KillFrame:
    def __init__(self, child, sign):
        self.receiver = child
        self.sign = sign

    def go(self, shell):
        shell.tell(("signal", self.receiver, self.sign))

    def answered(self, shell, answer):
        shell.last_status = 0
        shell.drop()


def do_say(shell, strings):
    lines = " ".join(strings[1:]).split("\n")
    shell.push(SayFrame([line[:LINE_SIGNS] for line in lines]))
    return True


def do_read(shell, strings):
    names = strings[1:]
    if len(names) == 0 or not all([is_name(name) for name in names]):
        return False
    shell.push(ReadFrame(names))
    return True


def do_is(shell, strings):
    if len(strings) == 2:
        shell.last_status = 0 if strings[1] != "" else 1
        return True
    if len(strings) == 3 and strings[1] in ("file", "directory"):
        path = resolved("", strings[2])
        shell.last_status = 1
        if path is not None:
            shell.push(LookFrame(strings[1], path))
        return True
    return len(strings) == 4 and is_compared(shell, strings[1], strings[2], strings[3])


def is_compared(shell, one, sign, other):
    """Whether two strings can be compared so; the status tells how."""
    if sign == "less":
        former, latter = number_of(one), number_of(other)
        if former is None or latter is None:
            return False
        shell.last_status = 0 if former < latter else 1
        return True
    if sign not in ("=", "!="):
        return False
    shell.last_status = 0 if (one == other) == (sign == "=") else 1
    return True


def do_leave(shell, strings):
    """Of leave and next."""
    number = told_number(strings[1]) if len(strings) == 2 else 1
    if len(strings) > 2 or number is None or number == 0:
        return False
    many = shell.loops_around()
    shell.last_status = 0 if many > 0 else 1
    if many > 0:
        shell.way = (strings[0], min(number, many))
    return True


def do_return(shell, strings):
    number = told_number(strings[1]) if len(strings) == 2 else None
    if len(strings) > 2 or (len(strings) == 2 and number is None):
        return False
    if shell.calls_around() == 0:
        shell.last_status = 1
        return True
    if number is not None:
        shell.last_status = number
    shell.way = ("return", 1)
    return True


def do_exit(shell, strings):
    number = told_number(strings[1]) if len(strings) == 2 else None
    if len(strings) > 2 or (len(strings) == 2 and number is None):
        return False
    shell.end(shell.last_status if number is None else number)
    return True


def do_shift(shell, strings):
    if len(strings) > 1:
        return False
    shell.last_status = 0 if len(shell.arguments) > 0 else 1
    shell.arguments = shell.arguments[1:]
    return True


def do_forget(shell, strings):
    names = strings[1:]
    if len(names) == 0 or not all([is_name(name) for name in names]):
        return False
    for name in names:
        shell.worths.pop(name, None)
    shell.last_status = 0
    return True


def do_strict(shell, strings):
    if len(strings) != 2 or strings[1] not in ("on", "off"):
        return False
    shell.is_strict = strings[1] == "on"
    shell.last_status = 0
    return True


def do_wait(shell, strings):
    if len(strings) == 1:
        shell.push(WaitFrame([child for child in shell.jobs if child not in shell.waited], 0))
        return True
    number = told_number(strings[1])
    if len(strings) > 2 or number is None:
        return False
    child = shell.job(number)
    shell.last_status = 127
    if child is not None:
        shell.push(WaitFrame([child], ("child", child)))
    return True


def do_trap(shell, strings):
    if len(strings) != 3 or strings[2] not in TRAPPED:
        return False
    text, word = strings[1], strings[2]
    if text not in ("", "-") and script_fault(text) is not None:
        return False
    shell.traps.pop(word, None)
    shell.left_out = [sign for sign in shell.left_out if sign != word]
    if text == "" and word != "exit":
        shell.left_out = sorted([*shell.left_out, word])
    elif text not in ("", "-"):
        shell.traps[word] = read_script(text)
    shell.last_status = 0
    return True


def do_kill(shell, strings):
    if len(strings) != 3 or not is_sign_word(strings[1]):
        return False
    number = told_number(strings[2])
    if number is None:
        return False
    child = shell.job(number)
    shell.last_status = 1
    if child is not None:
        shell.push(KillFrame(child, strings[1]))
    return True


WORDS = {
    "say": do_say, "read": do_read, "is": do_is, "leave": do_leave, "next": do_leave, "return": do_return,
    "exit": do_exit, "shift": do_shift, "forget": do_forget, "strict": do_strict, "wait": do_wait, "trap": do_trap,
    "kill": do_kill,
}


def is_word(text):
    return text in WORDS


def begin_word(shell, strings):
    """Do what the shell's own word tells, or put its frame on top; the status is 2 if it is not as it has to be."""
    do_it = WORDS[strings[0]]
    if not do_it(shell, strings):
        shell.last_status = 2
