"""All files and directories of a tree, the least tree that has some, and where two trees are unlike."""

from everypipe.errors import BadDirectories, BadFiles, BadTree
from everypipe.filetrees import copied, is_file, is_path, is_tree, names_of
from everypipe.kinds import is_listed, is_listed_of


def things_of(tree):
    """The dict from all paths of a tree but the root, ascending, to lines, or to None of directories."""
    found = {}
    waiting = [("", tree)]
    while len(waiting) > 0:
        beginning, here = waiting.pop()
        for name, inside in here.items():
            path = beginning + name
            if isinstance(inside, dict):
                found[path] = None
                waiting.append((path + "/", inside))
            else:
                found[path] = list(inside)
    return {path: found[path] for path in sorted(found)}


def files_of(tree):
    if not is_tree(tree):
        raise BadTree(tree)
    return [(path, lines) for path, lines in things_of(tree).items() if lines is not None]


def directories_of(tree):
    if not is_tree(tree):
        raise BadTree(tree)
    return [path for path, lines in things_of(tree).items() if lines is None]


def with_directory(tree, names):
    """The directory at some names in a tree of one's own, made where it was not; None through a file."""
    here = tree
    for name in names:
        here = here.setdefault(name, {})
        if not isinstance(here, dict):
            return None
    return here


def check_directories(directories):
    if not is_listed(directories):
        raise BadDirectories(0)
    ahead = {}
    for at, path in enumerate(directories):
        if not is_path(path) or path == "" or path in ahead:
            raise BadDirectories(at)
        ahead[path] = True


def is_path_and_lines(thing):
    return is_listed_of(thing, 2) and is_path(thing[0]) and thing[0] != "" and is_file(thing[1])


def tree_of(directories, files):
    check_directories(directories)
    if not is_listed(files):
        raise BadFiles(0)
    tree = {}
    for path in directories:
        with_directory(tree, names_of(path))
    for at, pair in enumerate(files):
        if not is_path_and_lines(pair):
            raise BadFiles(at)
        names = names_of(pair[0])
        where = with_directory(tree, names[:-1])
        if where is None or names[-1] in where:
            raise BadFiles(at)
        where[names[-1]] = list(pair[1])
    return copied(tree)


def unlike_at(one, other):
    if not is_tree(one):
        raise BadTree(one)
    if not is_tree(other):
        raise BadTree(other)
    here, there = things_of(one), things_of(other)
    unlike = [path for path in here if path not in there or here[path] != there[path]]
    unlike.extend([path for path in there if path not in here])
    return min(unlike) if len(unlike) > 0 else None
