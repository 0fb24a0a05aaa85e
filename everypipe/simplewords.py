"""Simple words, and a scope in which two of them expand unlike."""

from everypipe.errors import BadSimple
from everypipe.kinds import is_name
from everypipe.shellforms import fits

# None of them is told in a NAME or taken for a glob.
MARK_SIGNS = "~^=+:@,._-"


def is_simple_piece(piece):
    if piece[0] == "plain":
        return not any([sign in piece[1] for sign in "*?[]"])
    return piece[0] == "held" or (piece[0] == "value" and is_name(piece[1]))


def is_simple(thing):
    return fits("word", thing) and all([is_simple_piece(piece) for piece in thing])


def with_literal(pieces):
    """The literal of some pieces of a stretch: texts and names of held values by turns; [] of no piece."""
    literal = []
    for word, what in pieces:
        if word == "text" and len(literal) > 0 and literal[-1][0] == "text":
            what = literal.pop()[1] + what
        literal.append((word, what))
    full = [part for part in literal if part != ("text", "")]
    return full if len(full) > 0 else literal


def makings_of(word):
    """What a word is made of: literals, with the names of its open values between."""
    made = []
    stretch = []
    for piece in word:
        if piece[0] == "value" and not piece[2]:
            made.extend([with_literal(stretch), piece[1]])
            stretch = []
        else:
            stretch.append(("name" if piece[0] == "value" else "text", piece[1]))
    made.append(with_literal(stretch))
    return made


def mark_unlike(texts):
    """As many of some sign as none of the texts has side by side."""
    many = 1
    while True:
        for sign in MARK_SIGNS:
            if not any([sign * many in text for text in texts]):
                return sign * many
        many += 1


def words_part(one, other):
    if not is_simple(one):
        raise BadSimple(one)
    if not is_simple(other):
        raise BadSimple(other)
    if makings_of(one) == makings_of(other):
        return None
    pieces = [*one, *other]
    mark = mark_unlike([piece[1] for piece in pieces if piece[0] != "value"])
    names = sorted({piece[1] for piece in pieces if piece[0] == "value"})
    return ({name: " " + mark + name + " " for name in names}, [])
