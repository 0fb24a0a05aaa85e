"""Files made by tasks: what is up to date by its record, and what has to be made anew."""

from everypipe.errors import BadTree
from everypipe.filetrees import copied, is_file, is_tree
from everypipe.kinds import is_listed, is_listed_of
from everypipe.refusals import BadMade, BadRecords
from everypipe.tasks import check_tasks, order_of


def is_dict_of(thing, names):
    return isinstance(thing, dict) and len(thing) == len(names) and all([name in thing for name in names])


def is_made(thing, row):
    """Whether a thing is a dict from just the writes of a task to lists of lines."""
    return is_dict_of(thing, row[3]) and all([is_file(thing[name]) for name in row[3]])


def is_record(thing, row):
    if not is_listed_of(thing, 2) or not is_dict_of(thing[0], row[2]):
        return False
    if not all([thing[0][name] is None or is_file(thing[0][name]) for name in row[2]]):
        return False
    return is_made(thing[1], row)


def told_files(files):
    """A copy of a dict of files, ascending."""
    return {name: None if files[name] is None else list(files[name]) for name in sorted(files)}


def told_record(record):
    return (told_files(record[0]), told_files(record[1]))


def file_at(tree, name):
    """The lines of a file in the root of a tree, None if there is no such file."""
    lines = tree.get(name, None)
    return list(lines) if is_listed(lines) else None


def check_built(tasks, tree, records):
    """The dict from names to rows; tasks, tree and records are looked at."""
    check_tasks(tasks)
    if not is_tree(tree):
        raise BadTree(tree)
    rows = {row[0]: row for row in tasks.rows()}
    if not isinstance(records, dict) or not all([name in rows for name in list(records)]):
        raise BadRecords(records)
    if not all([is_record(record, rows[name]) for name, record in records.items()]):
        raise BadRecords(records)
    return rows


def why_not(row, tree, records):
    """The pair (why, file) of what is not up to date, None if it is."""
    name, _, reads, writes = row
    if name not in records:
        return ("new", None)
    read, written = told_record(records[name])
    for file in reads:
        if file_at(tree, file) != read[file]:
            return ("read", file)
    for file in writes:
        if file_at(tree, file) != written[file]:
            return ("written", file)
    return None


def built(tasks, tree, records, make):
    rows = check_built(tasks, tree, records)
    files = copied(tree)
    kept = {name: told_record(record) for name, record in records.items()}
    made = []
    for name in order_of(tasks):
        row = rows[name]
        if why_not(row, files, kept) is None:
            continue
        read = {file: file_at(files, file) for file in sorted(row[2])}
        told = make(name, told_files(read))
        if not is_made(told, row):
            raise BadMade(name)
        kept[name] = (read, told_files(told))
        for file in row[3]:
            files[file] = list(told[file])
        made.append(name)
    return (copied(files), {name: told_record(kept[name]) for name in sorted(kept)}, made)


def why_made(tasks, tree, records):
    rows = check_built(tasks, tree, records)
    found = []
    for name, row in rows.items():
        why = why_not(row, tree, records)
        if why is not None:
            found.append((name, why[0], why[1]))
    return found
