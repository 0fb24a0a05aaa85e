"""Words filled: the chunks that a word's pieces come to."""

from everypipe.needs import SumRefused
from everypipe.kinds import is_listed, is_listed_of, is_name, is_text
from everypipe.shellsums import counted, is_values


def is_scope(thing):
    if not is_listed_of(thing, 2) or not is_values(thing[0]) or not is_listed(thing[1]):
        return False
    return all([is_text(argument) for argument in thing[1]])


def value_of(parameter, scope):
    """The value of a NAME or of an argument, "" if there is none."""
    values, arguments = scope
    if is_name(parameter):
        return values.get(parameter, "")
    at = int(parameter) - 1
    return arguments[at] if at < len(arguments) else ""


def text_of(piece, scope, asker):
    """The string of a piece that is one chunk."""
    word, what = piece[0], piece[1]
    if word == "size":
        return str(len(value_of(what, scope)))
    if word == "out":
        return asker.out_text(what)
    if word == "sum":
        told = counted(what, scope[0])
        if told[0] == "refused":
            raise SumRefused(told[1])
        return str(told[1])
    if what == "?":
        return str(asker.ask(("status",)))
    return str(len(scope[1])) if what == "#" else value_of(what, scope)


def else_chunks(piece, scope, asker):
    value = value_of(piece[1], scope)
    if value != "":
        return [(value, "held" if piece[3] else "open")]
    chunks = chunks_of(piece[2], scope, asker)
    if not piece[3]:
        return chunks
    return [(text, "held") for text, _ in chunks] if len(chunks) > 0 else [("", "held")]


def chunks_of(word, scope, asker):
    """The chunks of a right word that is not all arguments."""
    chunks = []
    for piece in word:
        if piece[0] in ("plain", "held"):
            chunks.append((piece[1], piece[0]))
        elif piece[0] == "else":
            chunks.extend(else_chunks(piece, scope, asker))
        else:
            text = text_of(piece, scope, asker)
            chunks.append((text, "held" if piece[-1] else "open"))
    return chunks
