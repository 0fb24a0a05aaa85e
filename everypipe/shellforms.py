"""Whether a thing is of a kind of the shell's text, and its copy of just the kinds that are told."""

from everypipe.commandforms import form_of_command
from everypipe.wordforms import form_in_word, is_form_in_word


def form_of(kind, thing):
    if is_form_in_word(kind):
        return form_in_word(kind, thing)
    return form_of_command(kind, thing)


def is_left_out(kind, thing):
    """Whether nothing of a thing is left to be looked at."""
    return kind == "leaf" or (kind == "list or none" and thing is None)


def kind_inside(kind):
    return "list" if kind == "list or none" else kind


def fits(kind, thing):
    """Whether a thing is of this kind; what waits stands in a list, so that depth costs no calls."""
    waiting = [(kind, thing)]
    while len(waiting) > 0:
        kind, thing = waiting.pop()
        if is_left_out(kind, thing):
            continue
        form = form_of(kind_inside(kind), thing)
        if form is None:
            return False
        waiting.extend(list(zip(form[1], thing)))
    return True


def told(kind, thing):
    """A new copy of a thing that is of this kind: lists where lists are told, tuples where tuples are."""
    waiting = [(kind, thing)]
    done = []
    while len(waiting) > 0:
        kind, thing = waiting.pop()
        if kind == "closing":
            is_list, many = thing
            at = len(done) - many
            inside = done[at:]
            del done[at:]
            done.append(inside if is_list else tuple(inside))
        elif is_left_out(kind, thing):
            done.append(thing)
        else:
            is_list, kinds = form_of(kind_inside(kind), thing)
            waiting.append(("closing", (is_list, len(kinds))))
            waiting.extend(list(zip(kinds, thing))[::-1])
    return done[0]


def first_wrong_word(words):
    """The index of the first thing that is no word of a run, 0 for no list, None if there is none."""
    if not isinstance(words, (list, tuple)):
        return 0
    for at, word in enumerate(words):
        if not fits("free", word):
            return at
    return None
