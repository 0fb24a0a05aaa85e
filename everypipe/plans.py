"""Plans of tasks: rounds of tasks that are done at once."""

from everypipe.errors import BadMany
from everypipe.kinds import is_listed, is_number
from everypipe.tasks import all_needs, check_tasks, needs_by_name


def is_many(thing):
    return is_number(thing) and thing > 0


def is_round(thing, many):
    if not is_listed(thing) or len(thing) == 0 or (many is not None and len(thing) > many):
        return False
    return all([isinstance(name, str) for name in thing])


def is_plan(tasks, many, thing):
    check_tasks(tasks)
    if many is not None and not is_many(many):
        raise BadMany(many)
    if not is_listed(thing) or not all([is_round(names, many) for names in thing]):
        return False
    needs = needs_by_name(tasks)
    done = {}
    for names in thing:
        for name in names:
            if name not in needs or name in done or not all([need in done for need in needs[name]]):
                return False
        if len(set(names)) != len(names):
            return False
        for name in names:
            done[name] = True
    return len(done) == len(needs)


def heights_of(tasks):
    """The dict from names to heights, in rows' order."""
    needs = needs_by_name(tasks)
    heights = {}
    for name in list(all_needs(tasks))[::-1]:
        users = [other for other in needs if name in needs[other]]
        heights[name] = max([heights[other] for other in users], default=0) + 1
    return {name: heights[name] for name in needs}


def chain(tasks):
    check_tasks(tasks)
    needs = needs_by_name(tasks)
    heights = heights_of(tasks)
    found = []
    height = max(list(heights.values()), default=0)
    while height > 0:
        able = [name for name in needs if heights[name] == height and (len(found) == 0 or found[-1] in needs[name])]
        found.append(able[0])
        height -= 1
    return found


def level_plan(tasks):
    check_tasks(tasks)
    needs = needs_by_name(tasks)
    levels = {}
    for name in all_needs(tasks):
        levels[name] = max([levels[need] for need in needs[name]], default=-1) + 1
    rounds = max(list(levels.values()), default=-1) + 1
    return [[name for name in needs if levels[name] == level] for level in range(rounds)]


def high_plan(tasks, many):
    check_tasks(tasks)
    if not is_many(many):
        raise BadMany(many)
    needs = needs_by_name(tasks)
    heights = heights_of(tasks)
    plan = []
    done = {}
    while len(done) < len(needs):
        able = [name for name in needs if name not in done and all([need in done for need in needs[name]])]
        ranked = sorted([(-heights[name], at) for at, name in enumerate(able)])
        plan.append([able[at] for _, at in ranked[:many]])
        for name in plan[-1]:
            done[name] = True
    return plan


def height_paper(tasks, many):
    check_tasks(tasks)
    if not is_many(many):
        raise BadMany(many)
    heights = list(heights_of(tasks).values())
    best = (0, -1)
    for least in range(max(heights, default=0) + 1):
        higher = len([height for height in heights if height > least])
        number = least + (higher + many - 1) // many
        if number > best[1]:
            best = (least, number)
    return best
