"""The word of a row: that it tells all, or what bars this.

Each list of words is ascending: processes, then pipes, then numbers.
"""

from everypipe.kinds import is_integer, is_listed_of
from everypipe.likeness import is_like
from everypipe.nets import is_name_of_things
from everypipe.orders import links_of, pair_by
from everypipe.refusals import BadWaits
from everypipe.signs import is_process_name
from everypipe.stories import Story

BROKEN = 141
TOUCHING = ("write", "cut", "make", "start", "signal")


def early_stoppers(story, at):
    """Who else let go the take side of a pipe without need, although there was room for a put that is broken."""
    process, _, pipe, _ = story.row_deeds[at]
    place = len([put for put in story.put_at[pipe] if put < at]) - story.room(pipe)
    pasts = [story.sure_past(story.own_ahead(at))]
    if place >= 0:
        takes = [take for take in story.took_at[pipe] if take < at]
        if place >= len(takes):
            return []
        pasts.append(story.sure_past(takes[place]))
    stops = [(name, story.links.let_go.get((name, (pipe, "take")), None)) for name in story.holders(pipe)]
    others = [(name, stop) for name, stop in stops if name != process and stop is not None]
    return [name for name, stop in others if not story.is_in_one(stop, pasts)]


def open_words(story):
    found = {}
    for at, deed in enumerate(story.row_deeds):
        if deed[1] == "broken":
            found.update({name: True for name in early_stoppers(story, at)})
    return [("open", name) for name in sorted(found)]


def waits_words(story):
    return [("waits", name) for name in sorted(story.sureness.cut) if name not in story.outcomes]


def touch_words(story):
    touches = [at for at, deed in enumerate(story.row_deeds) if deed[1] in TOUCHING and story.is_loose(at)]
    return sorted([("touch", story.row_deeds[at][0], story.number(at)) for at in touches])


def is_status_loose(story, name):
    """Whether the status of a process that is over is loose, its own one or that of a child that it took over."""
    while name is not None:
        if story.is_cut(name) and story.outcomes[name] != BROKEN:
            return True
        end = story.row_deeds[story.links.over_at[name]]
        name = end[2] if end[1] == "over" else None
    return False


def asked_words(story):
    asked = {deed[2]: True for deed in story.row_deeds if deed[1] == "ask"}
    return [("asked", name) for name in sorted(asked) if is_status_loose(story, name)]


def is_noticed(story, broken, other):
    """Whether who does not take from its pipe sees what a process puts elsewhere behind a put that can be broken."""
    process, _, pipe, _ = story.row_deeds[broken]
    puts, takes = story.put_at[other], story.took_at[other]
    places = [place for place, put in enumerate(puts) if put > broken and story.row_deeds[put][0] == process]
    if len(places) == 0:
        return False
    seen = [takes[place] for place in places if place < len(takes)]
    for later in range(puts[places[0]], len(story.row_deeds)):
        if story.row_deeds[later][1] == "heard" and story.row_deeds[later][2] == other:
            seen.append(later)
    return any([(pipe, "take") not in story.held_at[later] for later in seen])


def heard_words(story):
    found = {}
    for (process, pipe), broken in story.first_broken().items():
        others = [other for other in story.put_at if other != pipe]
        found.update({("heard", process, other): True for other in others if is_noticed(story, broken, other)})
    return sorted(found)


def room_words(story):
    found = {}
    for pipe, takes in story.took_at.items():
        for put, take in zip(story.put_at[pipe][story.room(pipe):], takes):
            others = [name for name in story.holders(pipe) if name != story.row_deeds[take][0]]
            if story.is_loose(take) and len(others) > 0:
                found[("room", story.row_deeds[put][0], pipe)] = True
    return sorted(found)


def signal_words(story):
    answers = [at for at, deed in enumerate(story.row_deeds) if deed[1] in ("trap", "over")]
    found = {("signal", story.row_deeds[at][0]): True for at in answers if len(story.links.firm[at]) > 0}
    return sorted(found)


def has_rival(story, name, last):
    word, pipe = story.waits[name]
    if word not in ("put", "take") or pipe not in story.put_at:
        return False
    rivals = story.put_at[pipe] if word == "put" else story.took_at[pipe]
    others = [at for at in rivals if story.row_deeds[at][0] != name]
    past = story.sure_past(last.get(name, None))
    return not all([story.is_in_one(at, [past]) for at in others])


def rival_words(story):
    last = {deed[0]: at for at, deed in enumerate(story.row_deeds)}
    return [("rival", name) for name in sorted(story.waits) if has_rival(story, name, last)]


# What can be said for two ways of a row, in the order in which it is looked at; a pair of deeds comes behind it.
KINDS_OF_WORDS = (
    open_words, waits_words, touch_words, asked_words, heard_words, room_words, signal_words, rival_words,
)


def word_of_story(story):
    for words_of_kind in KINDS_OF_WORDS:
        words = words_of_kind(story)
        if len(words) > 0:
            return words[0]
    pair = pair_by(story.links, story.sureness.pasts)
    return ("one",) if pair is None else ("pair", pair[0], pair[1])


def told_wait(thing):
    """A wait in a copy: a word and the name of a pipe or a process, None for what is no name."""
    return (thing[0], tuple(thing[1]) if is_process_name(thing[1]) else None)


def story_of(net, row, waits):
    links = links_of(net, row)
    left = [name for name in links.fitting.held if name not in links.fitting.outcomes]
    if not isinstance(waits, dict) or len(waits) != len(left):
        raise BadWaits(waits)
    for name, wait in waits.items():
        if not is_name_of_things(name) or name not in left or not is_listed_of(wait, 2):
            raise BadWaits(waits)
    return Story(links, {name: told_wait(waits[name]) for name in sorted(left)})


def word_of(net, row, waits):
    return word_of_story(story_of(net, row, waits))


def is_told_pair(story, thing):
    """Whether a thing is the word of a pair of deeds, whether the first one or not."""
    if not is_listed_of(thing, 3) or not is_like(thing[0], "pair"):
        return False
    return is_integer(thing[1]) and is_integer(thing[2]) and story.is_pair(thing[1], thing[2])


def is_word(net, row, waits, thing):
    story = story_of(net, row, waits)
    if is_told_pair(story, thing):
        return True
    for words_of_kind in KINDS_OF_WORDS:
        if any([is_like(thing, word) for word in words_of_kind(story)]):
            return True
    return is_like(thing, ("one",)) and word_of_story(story) == ("one",)
