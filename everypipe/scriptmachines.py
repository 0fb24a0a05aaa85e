"""The machines of scripts: one shell, with lines to take and two files to put to."""

from everypipe.errors import BadHolders, BadScript, BadTree
from everypipe.filetrees import is_tree, opening_word
from everypipe.kinds import lines_fault
from everypipe.machines import Machine
from everypipe.refusals import BadLines
from everypipe.shells import shell_actor
from everypipe.shelltrees import is_script

OUT = ("file", "out", "add")
ERR = ("file", "err", "add")


def check_tree(tree):
    if not is_tree(tree):
        raise BadTree(tree)
    if opening_word(tree, "out", "add") != "" or opening_word(tree, "err", "add") != "":
        raise BadHolders(0)


def script_holders(script, tree, arguments, lines):
    """The holders of the machine of a script; all four are looked at in their order."""
    if not is_script(script):
        raise BadScript(script)
    check_tree(tree)
    actor = shell_actor(script, arguments)
    fault = lines_fault(lines)
    if fault is not None:
        raise BadLines(fault)
    return [(actor, {0: ("lines", lines), 1: OUT, 2: ERR})]


def script_machine(script, tree, arguments, lines, rooms, signals=()):
    holders = script_holders(script, tree, arguments, lines)
    return Machine(tree, holders, rooms, signals)
