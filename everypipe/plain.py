"""The plain meaning of scripts: what they leave if there are no processes, no pipes, no rooms."""

from everypipe.byneed import NoMeaning, Play, Store
from everypipe.errors import BadSteps
from everypipe.filetrees import copied, put_file
from everypipe.kinds import is_number
from everypipe.scriptmachines import script_holders


def plain_meaning(script, tree, arguments, lines, steps):
    holders = script_holders(script, tree, arguments, lines)
    if not is_number(steps):
        raise BadSteps(steps)
    files = copied(tree)
    for path in ("out", "err"):
        if path not in files:
            put_file(files, path, [])
    store = Store(list(lines), None)
    play = Play(files, steps, holders[0][0], {0: ("lines", store), 1: ("end", "out"), 2: ("end", "err")})
    try:
        status = play.go_on()
    except NoMeaning as lacking:
        return (lacking.word,)
    return ("ends", status, files, store.place)
