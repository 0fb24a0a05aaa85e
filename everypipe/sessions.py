"""Sessions: scripts entered one behind another on one tree, taken back, put back, and told of ahead."""

from everypipe.errors import BadShellText, BadTree
from everypipe.filetrees import copied, is_tree
from everypipe.kinds import is_listed
from everypipe.looking import check_many
from everypipe.machineforms import told_rooms
from everypipe.machines import check_schedule, schedule_fault
from everypipe.onerun import script_word
from everypipe.outcomes import outcome_now
from everypipe.refusals import BadSchedules, BadTexts
from everypipe.scriptmachines import script_machine
from everypipe.shellreading import read_script, script_fault

PUT_FILES = ("out", "err")


def check_session(tree, rooms):
    if not is_tree(tree) or any([name in tree for name in PUT_FILES]):
        raise BadTree(tree)
    return told_rooms(rooms)


def script_of(text):
    """The script of a text."""
    fault = script_fault(text)
    if fault is not None:
        raise BadShellText(fault[0], fault[1])
    return read_script(text)


class Stand:
    """How a session stands behind an entry.

    definitions is the dict from the names that are defined to their lists, in the order in which they came.
    """

    def __init__(self, text, ending, tree, definitions):
        self.text = text
        self.ending = ending
        self.tree = tree
        self.definitions = definitions

    def parts(self):
        return (self.text, self.ending, self.tree, self.definitions)


def with_definitions(definitions, script):
    """Definitions with those of a script that ended behind them."""
    found = {name: definitions[name] for name in definitions}
    for command, is_back in script:
        if command[0] == "def" and not is_back:
            found = {name: found[name] for name in found if name != command[1]}
            found[command[1]] = command[2]
    return found


class Session:
    """stands are those behind no entry, the first one, and so on; undone what can be put back, the next one last."""

    def __init__(self, tree, rooms):
        self.rooms = check_session(tree, rooms)
        self.stands = [Stand(None, None, copied(tree), {})]
        self.undone = []

    def top(self):
        return self.stands[-1]

    def whole_script(self, text):
        """The script of a text, the definitions that hold ahead of it."""
        definitions = self.top().definitions
        return [*[(("def", name, definitions[name]), False) for name in definitions], *script_of(text)]

    def enter(self, text, schedule, many):
        script = self.whole_script(text)
        check_schedule(schedule)
        check_many(many)
        machine = script_machine(script, self.top().tree, [], [], self.rooms)
        machine.run(schedule, many)
        outcome = outcome_now(machine) if machine.is_whole() else ("many",)
        files = machine.files()
        tree, definitions = self.top().tree, self.top().definitions
        if outcome[0] == "ends":
            tree = {name: files[name] for name in files if name not in PUT_FILES}
            definitions = with_definitions(definitions, script_of(text))
        self.stands.append(Stand(text, outcome[0], tree, definitions))
        self.undone = []
        return (outcome, files["out"], files["err"])

    def now(self):
        return copied(self.top().tree)

    def history(self):
        return [(stand.text, stand.ending) for stand in self.stands[1:]]

    def defined(self):
        return sorted(self.top().definitions)

    def undo(self):
        if len(self.stands) == 1:
            return None
        self.undone.append(self.stands.pop())
        return self.undone[-1].text

    def redo(self):
        if len(self.undone) == 0:
            return None
        self.stands.append(self.undone.pop())
        return self.top().text

    def word(self, text, many):
        script = self.whole_script(text)
        check_many(many)
        return script_word(script, self.top().tree, [], [], self.rooms, many)

    def copy(self):
        other = Session({}, self.rooms)
        other.stands = list(self.stands)
        other.undone = list(self.undone)
        return other

    def __eq__(self, other):
        if not isinstance(other, Session) or self.rooms != other.rooms or self.history() != other.history():
            return False
        mine, yours = [self.top(), *self.undone], [other.top(), *other.undone]
        return [stand.parts() for stand in mine] == [stand.parts() for stand in yours]


def check_texts(texts):
    if not is_listed(texts):
        raise BadTexts(0)
    for at, text in enumerate(texts):
        if script_fault(text) is not None:
            raise BadTexts(at)


def check_schedules(schedules, many):
    """Schedules are just so many."""
    if not is_listed(schedules):
        raise BadSchedules(0)
    for at, schedule in enumerate(schedules):
        if schedule_fault(schedule) is not None:
            raise BadSchedules(at)
    if len(schedules) != many:
        raise BadSchedules(len(schedules))


def replayed(tree, rooms, texts, schedules, many):
    session = Session(tree, rooms)
    check_texts(texts)
    check_schedules(schedules, len(texts))
    check_many(many)
    for text, schedule in zip(texts, schedules):
        session.enter(text, schedule, many)
    return session


def first_loose(tree, rooms, texts, many):
    session = Session(tree, rooms)
    check_texts(texts)
    check_many(many)
    for at, text in enumerate(texts):
        if session.word(text, many) != ("one",) or session.enter(text, [], many)[0][0] != "ends":
            return at
    return None
