"""Places in texts."""


def line_and_sign(text, at):
    """The place of an index, from 1; a line feed is one of the line that it ends."""
    ahead = text[:at]
    return (ahead.count("\n") + 1, at - ahead.rfind("\n"))
