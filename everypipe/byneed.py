"""Scripts done without pipes and rooms: each child where it is begun, the pieces of rows by need.

A Player is one process, a Task a piece of a row (or the whole script) with the players that it is
in the midst of, the last one at work. All tasks that are under way stand on one stack: each one
above another was asked for a line by it, or is led to its end there, or is in a row that it began.
"""

from everypipe.doers import begun
from everypipe.filetrees import kind_of, opening_word, put_file, thing_at
from everypipe.folk import MOST_SILENT, without
from everypipe.wishes import child_asked

BROKEN = 141


class NoMeaning(Exception):
    """A script has no plain meaning, or none within its steps; everypipe.plain catches it."""

    def __init__(self, word):
        self.word = word


class Store:
    """Lines, of a list (path is None) or of a file, with the place up to which they were taken."""

    def __init__(self, lines, path):
        self.lines = lines
        self.path = path
        self.place = 0


class Link:
    """What stands between two pieces of a row: one line, or None."""

    def __init__(self):
        self.ahead = None
        self.line = None
        self.is_ahead_over = False
        self.is_behind_over = False


class Player:
    """ports are where its descriptors lead: pairs of a word and of a store, a link, or a path.

    The words are "lines" of what is taken, "end" of a file and "out" of a list that are put to,
    "ahead" and "behind" of links to the pieces there.
    """

    def __init__(self, actor, ports):
        self.doer = begun(actor)
        self.ports = ports
        self.outcome = None
        self.born = []
        self.many_silent = 0

    def answer(self, thing):
        self.many_silent = 0
        self.doer.feed(thing)


class Task:
    """kept are the tasks, itself first, that go on when a line of it is wanted, or it is led to its end."""

    def __init__(self, player):
        self.players = [player]
        self.kept = [self]
        self.is_over = False
        self.link_ahead = None
        self.link_behind = None


class Play:
    """A script at work, on a tree that is its own."""

    def __init__(self, tree, steps, actor, ports):
        self.tree = tree
        self.steps = steps
        self.first = Player(actor, ports)
        self.tasks = [Task(self.first)]

    def go_on(self):
        """Do all of the script; its status."""
        while len(self.tasks) > 0:
            player = self.tasks[-1].players[-1]
            self.do(player, player.doer.wished())
        return self.first.outcome

    def count_step(self):
        self.steps = self.steps - 1
        if self.steps < 0:
            raise NoMeaning("long")

    def do(self, player, wish):
        word = "" if wish is None else wish[0]
        k = None if wish is None else child_asked(wish)
        if word == "" or (k is not None and k >= len(player.born)):
            self.count_step()
            self.end_player(player, 120)
        elif word == "close" or (word == "open" and wish[3] == "lines"):
            self.do_silent(player, wish)
        elif word == "take":
            self.take(player, player.ports.get(wish[1], ("", None)))
        else:
            self.count_step()
            self.do_counted(player, wish, k)

    def do_counted(self, player, wish, k):
        word = wish[0]
        if word == "signal" or (k is not None and player.born[k].outcome is None):
            raise NoMeaning("none")
        if word == "put":
            self.put(player, player.ports.get(wish[1], ("", None)), wish[2])
        elif word == "open":
            player.answer(self.opened_port(player, wish))
        elif word == "start":
            self.start(player, wish)
        elif word == "become":
            player.ports = {n: player.ports[lead[1]] for n, lead in wish[2].items() if lead[1] in player.ports}
            player.doer = begun(wish[1])
        elif word == "over":
            self.end_player(player, wish[1] if k is None else player.born[k].outcome)
        elif word in ("look", "list"):
            player.answer(found(self.tree, wish))
        else:
            player.answer(player.born[k].outcome if word == "ask" else None)

    def do_silent(self, player, wish):
        many = player.many_silent + 1
        player.ports = without(player.ports, wish[1])
        if wish[0] == "open":
            player.ports[wish[1]] = ("lines", Store(wish[2], None))
        player.answer("" if wish[0] == "open" else None)
        player.many_silent = many
        if many == MOST_SILENT:
            self.count_step()
            self.end_player(player, 125)

    def take(self, player, port):
        if port[0] == "ahead":
            self.take_ahead(player, port[1])
            return
        self.count_step()
        line = None
        if port[0] == "lines":
            store = port[1]
            lines = store.lines if store.path is None else thing_at(self.tree, store.path)
            if store.place < len(lines):
                line = lines[store.place]
                store.place = store.place + 1
        player.answer(line)

    def take_ahead(self, player, link):
        """Take what the piece ahead has put; it goes on first if that is nothing."""
        if link.line is None and not link.is_ahead_over:
            if link.ahead in self.tasks:
                raise NoMeaning("none")
            self.tasks.extend(link.ahead.kept)
            return
        self.count_step()
        line = link.line
        link.line = None
        player.answer(line)

    def put(self, player, port, line):
        word, thing = port
        if word == "behind" and thing.is_behind_over:
            self.end_player(player, BROKEN)
            return
        player.answer(None)
        if word == "end":
            thing_at(self.tree, thing).append(line)
        elif word == "out":
            thing.lines.append(line)
        elif word == "behind":
            thing.line = line
            piece = thing.ahead
            at = self.tasks.index(piece)
            piece.kept = self.tasks[at:]
            del self.tasks[at:]

    def opened_port(self, player, wish):
        """Open a file; the word that tells how."""
        n, path, way = wish[1], wish[2], wish[3]
        player.ports = without(player.ports, n)
        word = opening_word(self.tree, path, way)
        if word == "":
            if way == "cut" or thing_at(self.tree, path) is None:
                put_file(self.tree, path, [])
            player.ports[n] = ("lines", Store(None, path)) if way == "read" else ("end", path)
        return word

    def start(self, player, wish):
        """One child is done where it is begun; several are the pieces of a row."""
        children, own = wish[1], wish[2]
        player.answer(None)
        if len(children) == 1:
            store = Store([], None)
            born = Player(children[0][0], led_ports(player.ports, children[0][1], ("lines", store), ("out", store)))
            for n in own:
                player.ports[n] = ("lines", store)
            player.born.append(born)
            self.tasks[-1].players.append(born)
        else:
            self.start_row(player, children)

    def start_row(self, player, children):
        link = None
        for at, (actor, leads) in enumerate(children):
            behind = Link() if at < len(children) - 1 else None
            born = Player(actor, led_ports(player.ports, leads, ("ahead", link), ("behind", behind)))
            task = Task(born)
            task.link_ahead = link
            task.link_behind = behind
            if behind is not None:
                behind.ahead = task
            link = behind
            player.born.append(born)
            if at == len(children) - 1:
                self.tasks.append(task)

    def end_player(self, player, status):
        """The last player of the last task is over; its task, too, if it was its only one."""
        player.outcome = status
        task = self.tasks[-1]
        task.players.pop()
        if len(task.players) == 0:
            self.end_task(task)

    def end_task(self, task):
        """The piece ahead goes on at once, to its own end."""
        task.is_over = True
        self.tasks.pop()
        behind = task.link_behind
        if behind is not None:
            behind.is_ahead_over = True
        link = task.link_ahead
        if link is not None:
            link.is_behind_over = True
            piece = link.ahead
            if not piece.is_over:
                self.tasks.extend(piece.kept)


def led_ports(ports, leads, taken, put):
    """The ports of a child by its table; taken and put are those of what is new."""
    told = {}
    for n, lead in leads.items():
        if lead[0] == "new":
            told[n] = taken if lead[2] == "take" else put
        elif lead[1] in ports:
            told[n] = ports[lead[1]]
    return told


def found(tree, wish):
    thing = thing_at(tree, wish[1])
    if wish[0] == "look":
        return kind_of(thing)
    return sorted(thing) if isinstance(thing, dict) else None
