"""Given programs as strings call them."""

from everypipe.kinds import is_line_of_signs, is_listed
from everypipe.patterntexts import pattern_fault, read_pattern
from everypipe.pieces import PIECE_KINDS, is_piece
from everypipe.refusals import BadStrings
from everypipe.shellsums import number_of


def called_part(kind, text):
    """What a string stands for in a piece, None if for nothing of this kind."""
    if kind == "line":
        return text if is_line_of_signs(text) else None
    if kind == "pattern":
        return read_pattern(text) if pattern_fault(text) is None else None
    return number_of(text) if text != "" else None


def piece_called(strings):
    """As piece_of, of a list of strings."""
    if len(strings) == 0 or strings[0] not in PIECE_KINDS:
        return None
    kinds = PIECE_KINDS[strings[0]]
    if len(strings) != len(kinds) + 1:
        return None
    piece = (strings[0], *[called_part(kind, text) for kind, text in zip(kinds, strings[1:])])
    return piece if is_piece(piece) else None


def piece_of(strings):
    if not is_listed(strings):
        raise BadStrings(0)
    for at, text in enumerate(strings):
        if not isinstance(text, str):
            raise BadStrings(at)
    return piece_called(strings)
