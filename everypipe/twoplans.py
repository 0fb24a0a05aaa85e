"""Plans of two tasks at once: one with the fewest rounds, and papers that tell that there are no fewer."""

from everypipe.kinds import is_listed
from everypipe.refusals import BadLeftOut
from everypipe.tasks import all_needs, check_tasks


def behind_at_once(needed, names):
    """For each of some names those that need it with none of them between."""
    found = {}
    for name in names:
        users = [other for other in names if name in needed[other]]
        found[name] = [other for other in users if not any([between in needed[other] for between in users])]
    return found


def labels_of(needed, names):
    """The labels by which those go first that have more behind them (Coffman, Graham)."""
    behind = behind_at_once(needed, names)
    labels = {}
    for label in range(len(names)):
        ranked = []
        for at, name in enumerate(names):
            if name not in labels and all([other in labels for other in behind[name]]):
                ranked.append((sorted([labels[other] for other in behind[name]], reverse=True), at))
        labels[names[min(ranked)[1]]] = label
    return labels


def plan_of_two(needed, names):
    """The plan of two at once, of some names alone, that takes those of the greatest labels first."""
    labels = labels_of(needed, names)
    plan = []
    done = {}
    while len(done) < len(names):
        rest = [name for name in names if name not in done]
        able = [name for name in rest if not any([other in needed[name] for other in rest])]
        ranked = sorted([(-labels[name], at) for at, name in enumerate(able)])
        plan.append([able[at] for _, at in ranked[:2]])
        for name in plan[-1]:
            done[name] = True
    return plan


def two_plan(tasks):
    check_tasks(tasks)
    return plan_of_two(all_needs(tasks), tasks.names())


def are_related(needed, one, other):
    return one in needed[other] or other in needed[one]


def pieces_of(needed, names):
    """The pieces that some names fall into: lists of those that are not related, or through others so."""
    pieces = []
    rest = list(names)
    while len(rest) > 0:
        piece = [rest.pop(0)]
        at = 0
        while at < len(piece):
            here = piece[at]
            piece.extend([name for name in rest if not are_related(needed, here, name)])
            rest = [name for name in rest if name not in piece]
            at += 1
        pieces.append(piece)
    return pieces


def paper_rounds(tasks, thing):
    check_tasks(tasks)
    names = tasks.names()
    if not is_listed(thing) or not all([isinstance(name, str) and name in names for name in thing]):
        raise BadLeftOut(thing)
    if len(set(thing)) != len(thing):
        raise BadLeftOut(thing)
    pieces = pieces_of(all_needs(tasks), [name for name in names if name not in thing])
    odd = len([piece for piece in pieces if len(piece) % 2 == 1])
    return (len(names) - len(thing) + odd) // 2


def two_paper(tasks):
    """The tasks that are not related to one that can stay alone, and that cannot themselves (Gallai, Edmonds)."""
    check_tasks(tasks)
    needed = all_needs(tasks)
    names = tasks.names()
    rounds = len(plan_of_two(needed, names))
    lone = [name for name in names if len(plan_of_two(needed, [other for other in names if other != name])) < rounds]
    rest = [name for name in names if name not in lone]
    return [name for name in rest if not all([are_related(needed, name, other) for other in lone])]
