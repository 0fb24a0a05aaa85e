"""Tasks that need one another: their order, rings of needs, races for files."""

from everypipe.kinds import is_listed, is_listed_of, is_name
from everypipe.refusals import BadTask, BadTasks, Ringed


def are_unlike_names(thing):
    if not is_listed(thing) or not all([is_name(name) for name in thing]):
        return False
    return len(set(thing)) == len(thing)


def is_task_row(thing):
    if not is_listed_of(thing, 4) or not is_name(thing[0]):
        return False
    if not all([are_unlike_names(names) for names in thing[1:]]):
        return False
    return not any([name in thing[2] for name in thing[3]])


def check_rows(rows):
    if not is_listed(rows):
        raise BadTask(0)
    names = {}
    written = {}
    for at, row in enumerate(rows):
        if not is_task_row(row) or row[0] in names or any([name in written for name in row[3]]):
            raise BadTask(at)
        names[row[0]] = True
        for name in row[3]:
            written[name] = True
    for at, row in enumerate(rows):
        if not all([need in names and need != row[0] for need in row[1]]):
            raise BadTask(at)


class Tasks:
    def __init__(self, rows):
        check_rows(rows)
        self.task_rows = [(name, list(needs), list(reads), list(writes)) for name, needs, reads, writes in rows]

    def rows(self):
        return [(name, list(needs), list(reads), list(writes)) for name, needs, reads, writes in self.task_rows]

    def names(self):
        return [row[0] for row in self.task_rows]

    def __eq__(self, other):
        return isinstance(other, Tasks) and self.task_rows == other.task_rows


def needs_by_name(tasks):
    """The dict from names, in rows' order, to the lists of what they need."""
    return {row[0]: row[1] for row in tasks.rows()}


def first_that_can(needs, order):
    """The first name, not yet in an order, all of whose needs are; None if there is none."""
    for name, needed in needs.items():
        if name not in order and all([need in order for need in needed]):
            return name
    return None


def order_by(needs):
    """The order of names by their needs, as far as it goes."""
    order = {}
    name = first_that_can(needs, order)
    while name is not None:
        order[name] = True
        name = first_that_can(needs, order)
    return list(order)


def order_of(tasks):
    if not isinstance(tasks, Tasks):
        raise BadTasks(tasks)
    needs = needs_by_name(tasks)
    order = order_by(needs)
    return order if len(order) == len(needs) else None


def need_ring(tasks):
    if not isinstance(tasks, Tasks):
        raise BadTasks(tasks)
    needs = needs_by_name(tasks)
    order = order_by(needs)
    rest = [name for name in needs if name not in order]
    if len(rest) == 0:
        return None
    # Each one of the rest needs another one of it: the way comes back.
    way = [rest[0]]
    while True:
        following = [need for need in needs[way[-1]] if need in rest][0]
        if following in way:
            return way[way.index(following):]
        way.append(following)


def check_tasks(tasks):
    """Raise what is due of tasks that have to be in order."""
    if not isinstance(tasks, Tasks):
        raise BadTasks(tasks)
    if order_of(tasks) is None:
        raise Ringed(tasks)


def all_needs(tasks):
    """The dict from all names to the dicts of what they need, at once or through others; of tasks without a ring."""
    needs = needs_by_name(tasks)
    found = {}
    for name in order_by(needs):
        found[name] = {}
        for need in needs[name]:
            found[name][need] = True
            found[name].update(found[need])
    return found


def task_race(tasks):
    check_tasks(tasks)
    rows = tasks.rows()
    needed = all_needs(tasks)
    writers = {file: row[0] for row in rows for file in row[3]}
    for name, _, reads, _ in rows:
        for file in reads:
            if file in writers and writers[file] not in needed[name]:
                return (name, writers[file], file)
    return None
