"""Steps that rewrite a row of given pieces into one that tells the same, and where they end."""

from everypipe.errors import BadMany
from everypipe.kinds import is_listed_of, is_number
from everypipe.neatness import is_ending, neat_of
from everypipe.patterntexts import pattern_text
from everypipe.refusals import BadStep
from everypipe.rows import NO_LINES, told_row

# The rules in their order.
RULES = (
    "cat", "greps", "sorts", "uniqs", "heads", "tails", "sort grep", "sort uniq grep", "sort uniq sort", "cut head",
    "cut tail", "idle", "nothing", "count",
)
# The words of the pieces with which some rules are done, and the places of those that stay, in their order.
EXCHANGES = {
    "sorts": (("sort", "sort"), (0,)), "uniqs": (("uniq", "uniq"), (0,)), "sort grep": (("sort", "grep"), (1, 0)),
    "sort uniq grep": (("sort", "uniq", "grep"), (2, 0, 1)), "sort uniq sort": (("sort", "uniq", "sort"), (0, 1)),
    "cut head": (("cut", "head"), (1, 0)), "cut tail": (("cut", "tail"), (1, 0)),
}


def words_at(row, at, many):
    return tuple([piece[0] for piece in row[at:at + many]])


def behind_greps(row, at):
    """The pieces that two greps come to, None if they stay."""
    if words_at(row, at, 2) != ("grep", "grep"):
        return None
    one, other = pattern_text(row[at][1]), pattern_text(row[at + 1][1])
    if one == other:
        return [row[at]]
    return [row[at + 1], row[at]] if one > other else None


def behind_numbers(row, at, word):
    if words_at(row, at, 2) != (word, word):
        return None
    return [(word, min(row[at][1], row[at + 1][1]))]


def behind_idle(row, at):
    if row[at][0] != "grep":
        return None
    if is_ending(row[at][1]):
        return [("cat",)]
    # A neat pattern matches some line unless it is none itself.
    return [NO_LINES] if neat_of(row[at][1]) == ("none",) else None


def many_nothing(row, at):
    """How many pieces come to one that tells no lines, 0 for none."""
    if row[at] == ("tail", 0):
        return 1
    if at + 1 == len(row):
        return 0
    if row[at] != NO_LINES:
        return 2 if row[at + 1] == NO_LINES else 0
    is_such = row[at + 1][0] in ("grep", "sort", "uniq", "cut", "tail") and row[at + 1] != ("tail", 0)
    return 2 if is_such else 0


def exchanged(row, at, word):
    """The pair of how many pieces a rule is done with and of what they come to, None if it cannot be done there."""
    if word in EXCHANGES:
        words, places = EXCHANGES[word]
        if words_at(row, at, len(words)) != words:
            return None
        return (len(words), [row[at + place] for place in places])
    if word == "cat":
        return (1, []) if row[at][0] == "cat" and len(row) > 1 else None
    if word == "nothing":
        many = many_nothing(row, at)
        return None if many == 0 else (many, [NO_LINES])
    if word == "count":
        return (2, [("wc",)]) if words_at(row, at, 2) in (("cut", "wc"), ("sort", "wc")) else None
    if word == "idle":
        pieces = behind_idle(row, at)
        return None if pieces is None else (1, pieces)
    pieces = behind_greps(row, at) if word == "greps" else behind_numbers(row, at, word[:-1])
    return None if pieces is None else (2, pieces)


def row_behind(row, word, at):
    """The row behind a rule at a place, None if it cannot be done there."""
    change = exchanged(row, at, word)
    if change is None:
        return None
    many, pieces = change
    return [*row[:at], *pieces, *row[at + many:]]


def all_steps(row):
    """The pairs of a step and of the row behind it, in the order of steps."""
    found = []
    for at in range(len(row)):
        for word in RULES:
            other = row_behind(row, word, at)
            if other is not None:
                found.append(((word, at), other))
    return found


def steps_of(row):
    return [step for step, _ in all_steps(told_row(row))]


def after_step(row, step):
    """The row behind a step, None if it is none of this row."""
    if not is_listed_of(step, 2) or not isinstance(step[0], str) or step[0] not in RULES:
        return None
    if not is_number(step[1]) or step[1] >= len(row):
        return None
    return row_behind(row, step[0], step[1])


def stepped(row, step):
    other = after_step(told_row(row), step)
    if other is None:
        raise BadStep(step)
    return other


def first_way(row):
    """The pair of the first steps, one behind another, and of the row behind them."""
    steps = []
    found = all_steps(row)
    while len(found) > 0:
        step, row = found[0]
        steps.append(step)
        found = all_steps(row)
    return (steps, row)


def last_row(row):
    return first_way(told_row(row))[1]


def are_ends_kept(row, other):
    """Whether the last pieces of two rows have one word, or neither is a grep."""
    one, two = row[-1][0], other[-1][0]
    return one == two or "grep" not in (one, two)


def keeps_status(row, step):
    pieces = told_row(row)
    other = after_step(pieces, step)
    if other is None:
        raise BadStep(step)
    return are_ends_kept(pieces, other)


def last_kept(row):
    """As last_asked, of a row in a copy."""
    found = [other for _, other in all_steps(row) if are_ends_kept(row, other)]
    while len(found) > 0:
        row = found[0]
        found = [other for _, other in all_steps(row) if are_ends_kept(row, other)]
    return row


def last_asked(row):
    return last_kept(told_row(row))


def needed_by(piece, many):
    """How many lines a piece needs for its first many, None if whatever stands ahead."""
    word = piece[0]
    if many == 0 or word in ("cat", "cut"):
        return many
    if word == "head":
        return min(many, piece[1])
    return 1 if word == "uniq" and many == 1 else None


def row_needs(row, many):
    pieces = last_row(row)
    if not is_number(many):
        raise BadMany(many)
    for piece in pieces[::-1]:
        many = needed_by(piece, many)
        if many is None:
            return None
    return many
