"""Rows of deeds as texts: the text of a row, the row of a text, the first wrong sign."""

from everypipe.places import line_and_sign
from everypipe.refusals import BadRowText
from everypipe.rowforms import told_deeds
from everypipe.rowreading import KINDS, SIDES, WORDS, RowReader, WrongSign
from everypipe.signs import SIGN_NUMBERS


def joined(name):
    """The text of a name of a process, a pipe or a handle."""
    return ".".join([str(number) for number in name])


def or_dash(name):
    return "-" if name is None else joined(name)


def path_text(path):
    return "-" if path is None else "/" + path


def line_text(line):
    return "= " + line


def pipe_parts(word, thing, what):
    """The pieces of a deed by a pipe."""
    parts = [joined(thing[0]), thing[1]] if word == "drop" else [or_dash(thing)]
    return parts if word in ("drop", "heard") else [*parts, line_text(what)]


def file_parts(word, thing, what):
    """The pieces of a deed by a file, or by a list of lines."""
    if word in ("read", "done"):
        parts = [path_text(thing[0]), joined(thing[1])]
        return [*parts, line_text(what)] if word == "read" else parts
    parts = [path_text(thing)]
    if word == "write":
        parts.append(line_text(what))
    elif word == "make":
        parts.append(what)
    elif word == "list":
        parts.extend(["-"] if what is None else what)
    elif word == "find":
        parts.append("none" if what is None else what)
    return parts


def family_parts(word, thing, what):
    """The pieces of a deed by other processes."""
    if word == "start":
        children, pipes = [joined(child) for child in thing], [joined(pipe) for pipe in what]
        return [*children, "with", *pipes] if len(pipes) > 0 else children
    if word == "become":
        return [part for pipe, side in thing for part in (joined(pipe), side)]
    if word == "trap":
        return [thing]
    if word == "over":
        return [str(what)] if thing is None else [str(what), "by", joined(thing)]
    return [joined(thing)] if word == "wait" else [joined(thing), str(what)]


def deed_text(deed):
    name, word, thing, what = deed
    if word in ("take", "heard", "put", "broken", "drop"):
        parts = pipe_parts(word, thing, what)
    elif word in ("read", "done", "write", "cut", "make", "list", "find"):
        parts = file_parts(word, thing, what)
    else:
        parts = family_parts(word, thing, what)
    return " ".join([joined(name), word, *parts]) + "\n"


def row_text(row):
    return "".join([deed_text(deed) for deed in told_deeds(row)])


def read_pipe_deed(reader, word):
    """The pair of the two things behind the word of a deed by a pipe."""
    reader.skip(" ")
    if word == "drop":
        pipe = reader.read_name()
        reader.skip(" ")
        return ((pipe, reader.read_word(SIDES)), None)
    pipe = reader.read_name_or_none() if word in ("put", "heard") else reader.read_name()
    return (pipe, None if word == "heard" else reader.read_line())


def read_names(reader):
    """The list of the names in a directory, or None."""
    names = []
    while reader.is_at(" "):
        reader.skip(" ")
        if len(names) == 0 and reader.is_at("-"):
            reader.skip("-")
            return None
        names.append(reader.read_file_name())
    return names


def read_file_deed(reader, word):
    reader.skip(" ")
    path = reader.read_path_or_none() if word in ("read", "done") else reader.read_path()
    if word == "write":
        return (path, reader.read_line())
    if word == "list":
        return (path, read_names(reader))
    if word == "cut":
        return (path, None)
    reader.skip(" ")
    if word == "make":
        return (path, reader.read_file_name())
    if word == "find":
        kind = reader.read_word(KINDS)
        return (path, None if kind == "none" else kind)
    handle = reader.read_handle()
    return ((path, handle), None if word == "done" else reader.read_line())


def read_start(reader):
    children, pipes = [], []
    while reader.is_at(" "):
        reader.skip(" ")
        if reader.is_at("w"):
            reader.skip("with ")
            pipes.append(reader.read_name())
            break
        children.append(reader.read_name())
    while len(pipes) > 0 and reader.is_at(" "):
        reader.skip(" ")
        pipes.append(reader.read_name())
    return (tuple(children), tuple(pipes))


def read_become(reader):
    ends = []
    while reader.is_at(" "):
        reader.skip(" ")
        pipe = reader.read_name()
        reader.skip(" ")
        ends.append((pipe, reader.read_word(SIDES)))
    return (tuple(ends), None)


def read_over(reader):
    status = reader.read_status()
    if not reader.is_at(" "):
        return (None, status)
    reader.skip(" by ")
    return (reader.read_name(), status)


def read_family_deed(reader, word):
    if word in ("start", "become"):
        return read_start(reader) if word == "start" else read_become(reader)
    reader.skip(" ")
    if word == "trap":
        return (reader.read_word(("int", "term")), None)
    if word == "over":
        return read_over(reader)
    child = reader.read_name()
    if word == "wait":
        return (child, None)
    reader.skip(" ")
    return (child, reader.read_status() if word == "ask" else reader.read_word(list(SIGN_NUMBERS)))


def read_deed(reader):
    name = reader.read_name()
    reader.skip(" ")
    word = reader.read_word(WORDS)
    if word in ("take", "heard", "put", "broken", "drop"):
        thing, what = read_pipe_deed(reader, word)
    elif word in ("read", "done", "write", "cut", "make", "list", "find"):
        thing, what = read_file_deed(reader, word)
    else:
        thing, what = read_family_deed(reader, word)
    reader.skip("\n")
    return (name, word, thing, what)


def read_through(text):
    """The pair of the row of a string, or None, and of its fault, or None."""
    reader = RowReader(text)
    row = []
    try:
        while not reader.is_at(""):
            row.append(read_deed(reader))
    except WrongSign as wrong:
        return (None, line_and_sign(text, wrong.place))
    return (row, None)


def row_fault(text):
    if not isinstance(text, str):
        return (0, 0)
    return read_through(text)[1]


def read_row(text):
    if not isinstance(text, str):
        raise BadRowText(0, 0)
    row, fault = read_through(text)
    if fault is not None:
        raise BadRowText(fault[0], fault[1])
    return row
