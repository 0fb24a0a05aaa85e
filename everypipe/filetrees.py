"""Trees of files: lines, paths, what is there, and what opening and writing make of them."""

from everypipe.errors import BadLine, BadPath, BadString, BadTree, BadWay
from everypipe.kinds import is_line_of_signs, is_listed, is_name, lines_fault


def is_line(thing):
    return is_line_of_signs(thing)


def is_file(thing):
    return is_listed(thing) and lines_fault(thing) is None


def is_tree(thing):
    if not isinstance(thing, dict):
        return False
    waiting = [thing]
    while len(waiting) > 0:
        here = waiting.pop()
        for name, inside in here.items():
            if not is_name(name):
                return False
            if isinstance(inside, dict):
                waiting.append(inside)
            elif not is_file(inside):
                return False
    return True


def names_of(path):
    """The names of a path, none of the root."""
    return path.split("/") if path != "" else []


def is_path(thing):
    return isinstance(thing, str) and all([is_name(name) for name in names_of(thing)])


def check_tree_and_path(tree, path):
    if not is_tree(tree):
        raise BadTree(tree)
    if not is_path(path):
        raise BadPath(path)


def thing_at(tree, path):
    """The dict or the list that a tree has at a path, None if it has nothing there."""
    here = tree
    for name in names_of(path):
        if not isinstance(here, dict):
            return None
        here = here.get(name, None)
    return here


def kind_of(thing):
    if thing is None:
        return None
    return "directory" if isinstance(thing, dict) else "file"


def kind_at(tree, path):
    check_tree_and_path(tree, path)
    return kind_of(thing_at(tree, path))


def names_at(tree, path):
    check_tree_and_path(tree, path)
    here = thing_at(tree, path)
    return sorted(here) if isinstance(here, dict) else None


def lines_at(tree, path):
    check_tree_and_path(tree, path)
    here = thing_at(tree, path)
    return list(here) if is_listed(here) else None


def resolved(here, text):
    if not is_path(here):
        raise BadPath(here)
    if not isinstance(text, str):
        raise BadString(text)
    names = [] if text.startswith("/") else names_of(here)
    for piece in text.split("/"):
        if is_name(piece):
            names.append(piece)
        elif piece == "..":
            del names[-1:]
        elif piece not in ("", "."):
            return None
    return "/".join(names)


def copied(tree):
    """A new tree like a tree, its names ascending."""
    copy = {}
    waiting = [(tree, copy)]
    while len(waiting) > 0:
        old, new = waiting.pop()
        for name in sorted(old):
            inside = old[name]
            if isinstance(inside, dict):
                new[name] = {}
                waiting.append((inside, new[name]))
            else:
                new[name] = list(inside)
    return copy


def put_file(tree, path, lines):
    """Put a file into a tree of one's own, whose directory is there; names stay ascending."""
    where, name = parted_path(path)
    inside = thing_at(tree, where)
    behind = [(other, inside[other]) for other in sorted(inside) if other > name]
    for other, _ in behind:
        del inside[other]
    inside[name] = lines
    for other, thing in behind:
        inside[other] = thing


def parted_path(path):
    where, _, name = path.rpartition("/")
    return (where, name)


def opening_word(tree, path, way):
    kind = kind_of(thing_at(tree, path))
    if kind == "directory":
        return "directory"
    if kind == "file":
        return ""
    is_lost = kind_of(thing_at(tree, parted_path(path)[0])) != "directory"
    return "lacks" if way == "read" or is_lost else ""


def opened(tree, path, way):
    check_tree_and_path(tree, path)
    if not (isinstance(way, str) and way in ("read", "cut", "add")):
        raise BadWay(way)
    word = opening_word(tree, path, way)
    told = copied(tree)
    if word == "" and (way == "cut" or thing_at(tree, path) is None):
        put_file(told, path, [])
    return (told, word)


def with_line(tree, path, line):
    check_tree_and_path(tree, path)
    if kind_of(thing_at(tree, path)) != "file":
        raise BadPath(path)
    if not is_line(line):
        raise BadLine(line)
    told = copied(tree)
    thing_at(told, path).append(line)
    return told


def dir_and_name(path):
    if not is_path(path) or path == "":
        raise BadPath(path)
    return parted_path(path)
