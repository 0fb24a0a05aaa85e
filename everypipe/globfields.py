"""Fields taken for globs: the paths that a field comes to. A field's signs are pairs (sign, is_held)."""

from everypipe.globs import names_taken
from everypipe.kinds import SIGNS


def signs_of(field):
    return [(sign, is_held) for text, is_held in field for sign in text]


def lot_end(signs, at):
    """The index of the "]" that ends the lot begun by the "[" at an index, None if there is none."""
    for end in range(at + 2, len(signs)):
        if signs[end] == ("]", False):
            return end
    return None


def glob_sign(sign):
    return " " if sign == "\n" else sign


def lot_item(signs):
    found = [glob_sign(sign) for sign, _ in signs]
    lot = "".join([sign for sign in SIGNS if sign in found])
    return ("one",) if lot == SIGNS else ("of", lot)


def items_of(signs):
    """The glob of some signs."""
    items = []
    at = 0
    while at < len(signs):
        sign, is_held = signs[at]
        end = lot_end(signs, at) if sign == "[" and not is_held else None
        if end is not None:
            items.append(lot_item(signs[at + 1:end]))
            at = end
        elif is_held or sign not in ("*", "?"):
            items.append(glob_sign(sign))
        else:
            items.append(("some",) if sign == "*" else ("one",))
        at += 1
    return items


def parts_of(signs):
    """The parts of some signs between the slashes."""
    parts = [[]]
    for sign, is_held in signs:
        if sign == "/":
            parts.append([])
        else:
            parts[-1].append((sign, is_held))
    return parts


def listed_path(beginning):
    """The path to be listed for names behind a beginning."""
    path = beginning.rstrip("/")
    return "/" if path == "" and beginning != "" else path


def with_names(beginnings, items, asker):
    """Behind each beginning the names that a glob takes there."""
    paths = []
    for beginning in beginnings:
        names = asker.ask(("list", listed_path(beginning)))
        if names is not None:
            paths.extend([beginning + name for name in names_taken(items, names)])
    return paths


def paths_of(signs, asker):
    """The paths that some signs come to, one of which at least is not a slash."""
    parts = parts_of(signs)
    paths = [""]
    if len(parts[0]) == 0:
        paths = ["/"]
        del parts[0]
    is_listing = False
    for at, part in enumerate(parts):
        beginnings = paths if at == 0 else [path + "/" for path in paths]
        items = items_of(part)
        if not all([isinstance(item, str) for item in items]):
            is_listing = True
        if is_listing and len(part) > 0:
            paths = with_names(beginnings, items, asker)
        else:
            text = "".join([sign for sign, _ in part])
            paths = [beginning + text for beginning in beginnings]
    return sorted(paths)


def strings_of_field(field, asker):
    """The strings that a field comes to, taken for a glob where it is one."""
    signs = signs_of(field)
    text = "".join([sign for sign, _ in signs])
    if not any([sign in ("*", "?", "[") and not is_held for sign, is_held in signs]):
        return [text]
    paths = paths_of(signs, asker)
    return paths if len(paths) > 0 else [text]
