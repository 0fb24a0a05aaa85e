"""The given programs, by their pieces: as programs, and as functions of their streams."""

from everypipe.alone import is_streams
from everypipe.errors import BadMost, BadPiece, BadStreams
from everypipe.kinds import LINE_SIGNS, is_number
from everypipe.matching import has_stretch, moves_of
from everypipe.patterntexts import pattern_text
from everypipe.pieces import is_piece
from everypipe.programs import Program

A = ("line", "a")
B = ("line", "b")
COUNT = ("count", "i")
GREATEST_SORT = 200


def filter_rows(piece):
    """The rows of what takes line by line, and perhaps puts something for each one."""
    word = piece[0]
    if word == "cat":
        return [("take", 0, "a", 3), ("put", 1, [A]), ("jump", 0)]
    if word == "tee":
        return [("take", 0, "a", 4), ("put", 1, [A]), ("put", piece[1], [A]), ("jump", 0)]
    if word == "cut":
        return [("take", 0, "a", 4), ("field", "b", "a", piece[1]), ("put", 1, [B]), ("jump", 0)]
    if word == "uniq":
        return [("take", 0, "a", 6), ("put", 1, [A]), ("set", "b", [A]), ("take", 0, "a", 6), ("same", "a", "b", 1),
                ("jump", 3)]
    if word == "head":
        return [("less", "i", piece[1], 5), ("take", 0, "a", 5), ("put", 1, [A]), ("count", "i", 1), ("jump", 0)]
    if word == "paste":
        return [("take", 0, "a", 6), ("take", piece[1], "b", 4), ("put", 1, [A, ("text", " "), B]), ("jump", 0),
                ("put", 1, [A, ("text", " ")]), ("jump", 0)]
    text = pattern_text(piece[1])
    return [("take", 0, "a", 5), ("match", text, "a", 0), ("put", 1, [A]), ("count", "i", 1), ("jump", 0),
            ("less", "i", 1, 7), ("end", 1)]


def other_rows(piece):
    word = piece[0]
    if word == "tail":
        return [("take", 0, "a", 7), ("less", "i", piece[1], 4), ("count", "i", 1), ("jump", 5), ("first", "b", 0),
                ("keep", [A]), ("jump", 0), ("first", "a", 10), ("put", 1, [A]), ("jump", 7)]
    if word == "sort":
        return [("take", 0, "a", 3), ("keep", [A]), ("jump", 0), ("least", "a", 6), ("put", 1, [A]), ("jump", 3)]
    if word == "wc":
        return [("take", 0, "a", 3), ("count", "i", 1), ("jump", 0), ("put", 1, [COUNT])]
    if word == "seq":
        # Nothing is put if the other number, in j, is less than the next one to be put.
        return [("count", "i", piece[1]), ("count", "j", piece[2]), ("less", "j", "i", 4), ("end", 0),
                ("put", 1, [COUNT]), ("count", "i", 1), ("jump", 2)]
    if word == "yes":
        return [("put", 1, [("text", piece[1])]), ("jump", 0)]
    return [("end", 1 if word == "false" else 0)]


def rows_of(piece):
    if piece[0] in ("cat", "tee", "cut", "uniq", "head", "paste", "grep"):
        return filter_rows(piece)
    return other_rows(piece)


def program_of(piece):
    if not is_piece(piece):
        raise BadPiece(piece)
    return Program(rows_of(piece))


def cut_field(line, k):
    fields = [field for field in line.split(" ") if field != ""]
    return fields[k - 1] if k <= len(fields) else ""


def pasted(lines, others):
    """Each line with one of the others behind a blank, "" where there are fewer."""
    lacking = len(lines) - len(others)
    filled = list(others) + ["" for _ in range(lacking)]
    return [(line + " " + other)[:LINE_SIGNS] for line, other in zip(lines, filled)]


def put_lines(piece, streams):
    """The lines that a piece but yes puts to 1."""
    word = piece[0]
    lines = list(streams.get(0, []))
    if word == "cut":
        return [cut_field(line, piece[1]) for line in lines]
    if word == "uniq":
        return [line for at, line in enumerate(lines) if at == 0 or line != lines[at - 1]]
    if word == "grep":
        moves = moves_of(piece[1])
        return [line for line in lines if has_stretch(moves, line)]
    if word == "head":
        return lines[:piece[1]]
    if word == "tail":
        return lines[max(0, len(lines) - piece[1]):]
    if word == "sort":
        return sorted(lines[:GREATEST_SORT])
    if word == "wc":
        return [str(len(lines))]
    if word == "paste":
        return pasted(lines, streams.get(piece[1], []))
    if word == "seq":
        return [str(number) for number in range(piece[1], piece[2] + 1)]
    return lines if word in ("cat", "tee") else []


def status_of(piece, lines):
    """The status of a piece that has put some lines."""
    if piece[0] == "false" or (piece[0] == "grep" and len(lines) == 0):
        return 1
    return 0


def plain_of(piece, streams, most):
    if not is_piece(piece):
        raise BadPiece(piece)
    if not is_streams(streams):
        raise BadStreams(streams)
    if not is_number(most):
        raise BadMost(most)
    if piece[0] == "yes":
        return ({1: [piece[1] for _ in range(most)]} if most > 0 else {}, None)
    lines = put_lines(piece, streams)
    outs = {1: lines} if len(lines) > 0 else {}
    if piece[0] == "tee" and len(lines) > 0:
        outs[piece[1]] = list(lines)
    return (outs, status_of(piece, lines))
