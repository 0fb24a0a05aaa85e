"""The neat forms of patterns, and the neat patterns behind a sign; all patterns here are right ones."""


def stretched(pattern, words):
    """The parts of a pattern, from the left, down to those of none of these words."""
    waiting = [pattern]
    parts = []
    while len(waiting) > 0:
        part = waiting.pop()
        if part[0] in words:
            waiting.extend(list(part[1:])[::-1])
        else:
            parts.append(part)
    return parts


def is_ending(pattern):
    """Whether a pattern matches the line without signs."""
    word = pattern[0]
    if word == "row":
        return all([is_ending(part) for part in stretched(pattern, ("row",))])
    if word == "either":
        return any([is_ending(part) for part in stretched(pattern, ("either",))])
    return word in ("empty", "often")


def neat_row(patterns):
    """The neat row of neat patterns."""
    parts = [part for pattern in patterns for part in stretched(pattern, ("row",)) if part[0] != "empty"]
    if any([part[0] == "none" for part in parts]):
        return ("none",)
    if len(parts) == 0:
        return ("empty",)
    row = parts[-1]
    for part in parts[-2::-1]:
        row = ("row", part, row)
    return row


def neat_either(patterns):
    """The neat either of neat patterns."""
    parts = sorted([part for pattern in patterns for part in stretched(pattern, ("either",)) if part[0] != "none"])
    if len(parts) == 0:
        return ("none",)
    either = parts[0]
    for at in range(1, len(parts)):
        if parts[at] != parts[at - 1]:
            either = ("either", either, parts[at])
    return either


def neat_often(pattern):
    """The neat often of a neat pattern."""
    if pattern[0] == "often":
        return pattern
    if pattern[0] in ("none", "empty"):
        return ("empty",)
    return ("often", pattern)


def neat_of(pattern):
    word = pattern[0]
    if word == "row":
        return neat_row([neat_of(part) for part in stretched(pattern, ("row",))])
    if word == "either":
        return neat_either([neat_of(part) for part in stretched(pattern, ("either",))])
    if word == "often":
        while pattern[0] == "often":
            pattern = pattern[1]
        return neat_often(neat_of(pattern))
    return tuple(pattern)


def behind(pattern, letter):
    """The neat pattern of what is behind a sign in a neat pattern."""
    word = pattern[0]
    if word == "either":
        return neat_either([behind(part, letter) for part in stretched(pattern, ("either",))])
    if word == "row":
        return behind_row(stretched(pattern, ("row",)), letter)
    if word == "often":
        return neat_row([behind(pattern[1], letter), pattern])
    is_such = word == "any" or (word == "of" and letter in pattern[1])
    return ("empty",) if is_such else ("none",)


def behind_row(parts, letter):
    """Behind a sign in a row: what is behind in each part that can be the first one to have signs."""
    ways = []
    for at, part in enumerate(parts):
        ways.append(neat_row([behind(part, letter), *parts[at + 1:]]))
        if not is_ending(part):
            break
    return neat_either(ways)
