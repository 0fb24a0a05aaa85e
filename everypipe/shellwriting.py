"""The one form of a script as text.

Things wait in a list with the strings that stand between them, each a pair (kind, thing);
what is on top is written, or parted into such again, so that depth costs no calls.
"""

from everypipe.errors import BadScript
from everypipe.kinds import is_name
from everypipe.shelltrees import is_script
from everypipe.wordforms import TWO_SUMS


def joined(kind, things, between):
    """The parts of things of one kind, with a string between two."""
    parts = []
    for at, thing in enumerate(things):
        if at > 0:
            parts.append(between)
        parts.append((kind, thing))
    return parts


def sum_parts(kind, total):
    word = total[0]
    if word == "number":
        return [str(total[1])]
    if word == "name":
        return [total[1]]
    parts = ["-", ("least sum", total[1])]
    if word in TWO_SUMS:
        parts = [("inner sum", total[1]), " " + word + " ", ("inner sum", total[2])]
    is_bare = kind == "sum" or (kind == "inner sum" and word == "less")
    return parts if is_bare else ["(", *parts, ")"]


def held_text(text):
    return text.replace("\\", "\\\\").replace("\"", "\\\"").replace("$", "\\$")


def parameter_text(parameter):
    return "${" + parameter + "}" if is_name(parameter) else "$" + parameter


def begins_round(pairs):
    """Whether the text of a list begins with a round bracket."""
    command = pairs[0][0]
    while command[0] in ("and", "or", "row"):
        command = command[1][0] if command[0] == "row" else command[1]
    return command[0] == "sub"


def piece_parts(piece):
    word = piece[0]
    if word == "plain":
        return [piece[1]]
    if word == "held":
        return [held_text(piece[1])]
    if word == "value":
        return [parameter_text(piece[1])]
    if word == "size":
        return ["${#" + piece[1] + "}"]
    if word == "else":
        return ["${" + piece[1] + ":-", ("word", piece[2]), "}"]
    if word == "sum":
        return ["$((", ("sum", piece[1]), "))"]
    if word == "out":
        return ["$( " if begins_round(piece[1]) else "$(", ("list", piece[1]), ")"]
    return ["$@"]


def word_parts(word):
    """Pieces that are held, side by side, stand in one pair of quotes."""
    parts = []
    is_open = False
    for piece in word:
        is_held = piece[0] == "held" or piece[-1] is True
        if is_held != is_open:
            parts.append("\"")
            is_open = is_held
        parts.extend(piece_parts(piece))
    if is_open:
        parts.append("\"")
    return parts


def turn_parts(turn):
    n, way, what = turn
    if way == "&":
        return [str(n) + ">&" + str(what)]
    if way == "-":
        return [str(n) + ">&-"]
    is_parted = way == "<" and what[0][0] == "plain" and what[0][1].startswith(":")
    return [str(n) + way + (" " if is_parted else ""), ("word", what)]


def run_parts(command):
    sets = joined("set", command[1], " ")
    words = joined("word", command[2], " ")
    turns = joined("turn", command[3], " ")
    parts = []
    for more in (sets, words, turns):
        if len(parts) > 0 and len(more) > 0:
            parts.append(" ")
        parts.extend(more)
    return parts


def case_parts(command):
    parts = ["case ", ("word", command[1]), ";"]
    for words, pairs in command[2]:
        parts.extend([" when ", *joined("word", words, " | "), "; do ", ("list", pairs)])
    return [*parts, " end"]


def block_parts(command):
    """The parts of a command that has turns behind it, but of a run, without these."""
    word = command[0]
    if word == "group":
        return ["{ ", ("list", command[1]), " }"]
    if word == "sub":
        return ["( ", ("list", command[1]), " )"]
    if word == "while":
        return ["while ", ("list", command[1]), " do ", ("list", command[2]), " end"]
    if word == "for":
        parts = ["for " + command[1] + " in"]
        for free in command[2]:
            parts.extend([" ", ("word", free)])
        return [*parts, "; do ", ("list", command[3]), " end"]
    if word == "case":
        return case_parts(command)
    parts = ["if ", ("list", command[1]), " then ", ("list", command[2])]
    if command[3] is not None:
        parts.extend([" else ", ("list", command[3])])
    return [*parts, " end"]


def command_parts(command):
    word = command[0]
    if word == "run":
        return run_parts(command)
    if word == "row":
        return joined("command", command[1], " | ")
    if word == "not":
        return ["! ", ("command", command[1])]
    if word in ("and", "or"):
        return [("command", command[1]), " && " if word == "and" else " || ", ("command", command[2])]
    if word == "def":
        return ["def " + command[1] + " { ", ("list", command[2]), " }"]
    parts = block_parts(command)
    for turn in command[-1]:
        parts.extend([" ", ("turn", turn)])
    return parts


def list_parts(pairs):
    parts = []
    for at, (command, is_back) in enumerate(pairs):
        if at > 0:
            parts.append(" ")
        parts.extend([("command", command), " &" if is_back else ";"])
    return parts


def script_parts(pairs):
    parts = []
    for command, is_back in pairs:
        parts.extend([("command", command), " &\n" if is_back else "\n"])
    return parts


def parts_of(kind, thing):
    if kind == "script":
        return script_parts(thing)
    if kind == "list":
        return list_parts(thing)
    if kind == "command":
        return command_parts(thing)
    if kind == "set":
        return [thing[0] + "=", ("word", thing[1])]
    if kind == "word":
        return word_parts(thing)
    if kind == "turn":
        return turn_parts(thing)
    return sum_parts(kind, thing)


def script_text(script):
    if not is_script(script):
        raise BadScript(script)
    waiting = [("script", script)]
    texts = []
    while len(waiting) > 0:
        part = waiting.pop()
        if isinstance(part, str):
            texts.append(part)
        else:
            waiting.extend(parts_of(part[0], part[1])[::-1])
    return "".join(texts)
