"""Fields: what chunks come to when they are parted at open blanks and line feeds."""

from everypipe.errors import BadChunks
from everypipe.kinds import is_listed, is_listed_of


def is_chunk(thing):
    if not is_listed_of(thing, 2) or not isinstance(thing[0], str):
        return False
    return isinstance(thing[1], str) and thing[1] in ("held", "plain", "open")


def pairs_of(chunks):
    """All that is put, one behind another: pairs (string, is_held), and None for what parts."""
    pairs = []
    for text, way in chunks:
        if way != "open":
            pairs.append((text, way == "held"))
            continue
        for at, part in enumerate(text.replace("\n", " ").split(" ")):
            if at > 0:
                pairs.append(None)
            pairs.append((part, False))
    return pairs


def field_of(pairs):
    """The field of what stands between two that part, None if that is none."""
    field = []
    for text, is_held in pairs:
        if text == "":
            continue
        if len(field) > 0 and field[-1][1] == is_held:
            text = field.pop()[0] + text
        field.append((text, is_held))
    if len(field) > 0:
        return field
    return [("", True)] if any([is_held for _, is_held in pairs]) else None


def fields_of(chunks):
    groups = [[]]
    for pair in pairs_of(chunks):
        if pair is None:
            groups.append([])
        else:
            groups[-1].append(pair)
    fields = [field_of(group) for group in groups]
    return [field for field in fields if field is not None]


def parted(chunks):
    if not is_listed(chunks):
        raise BadChunks(0)
    for at, chunk in enumerate(chunks):
        if not is_chunk(chunk):
            raise BadChunks(at)
    return fields_of(chunks)
