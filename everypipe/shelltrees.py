"""Scripts as trees: whether a thing is one, and the word that holds a text."""

from everypipe.errors import BadHeldText
from everypipe.kinds import is_text
from everypipe.shellforms import fits


def is_script(thing):
    return fits("script", thing)


def quoted(text):
    if not is_text(text):
        raise BadHeldText(text)
    return [("held", text)]
