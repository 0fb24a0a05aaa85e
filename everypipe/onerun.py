"""One run of a machine tells of all its schedules: papers for it, and what it tells of scripts."""

from everypipe.deedforms import deed_of
from everypipe.errors import BadScript
from everypipe.kinds import is_listed, is_listed_of
from everypipe.lateness import is_late_by
from everypipe.likeness import is_like
from everypipe.looking import check_fresh, check_many, looked, story_behind
from everypipe.outcomes import outcome_now, unlike_outcomes
from everypipe.refusals import BadOther
from everypipe.replays import first_undone
from everypipe.scriptmachines import script_machine
from everypipe.shelltrees import is_script
from everypipe.words import word_of_story


def script_word(script, tree, arguments, lines, rooms, many):
    machine = script_machine(script, tree, arguments, lines, rooms)
    check_many(many)
    return looked(machine, many).told_word()


def is_paper(machine, thing, many):
    check_fresh(machine)
    check_many(many)
    if not is_listed_of(thing, 2) or not is_listed(thing[1]) or len(thing[1]) > many:
        return False
    copy = machine.copy()
    if first_undone(copy, [deed_of(part) for part in thing[1]]) is not None or not copy.is_whole():
        return False
    story = story_behind(copy)
    return is_late_by(story.links) and is_like(thing[0], word_of_story(story))


def paper_of(machine, many):
    check_fresh(machine)
    check_many(many)
    look = looked(machine, many)
    if look.verdict is None or look.verdict[0] == "open":
        return None
    return (look.verdict, look.machine.deeds())


def script_parting(script, other, tree, arguments, lines, rooms, many):
    if not is_script(script):
        raise BadScript(script)
    if not is_script(other):
        raise BadOther(other)
    machines = [script_machine(one, tree, arguments, lines, rooms) for one in (script, other)]
    check_many(many)
    looks = [looked(machine, many) for machine in machines]
    for which, look in enumerate(looks):
        if look.verdict != ("one",):
            return ("word", which, look.told_word())
    return unlike_outcomes(outcome_now(looks[0].machine), outcome_now(looks[1].machine))
