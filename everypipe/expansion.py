"""Expansion of words: what they come to, or what has to be found out first."""

from everypipe.chunks import chunks_of, is_scope
from everypipe.errors import BadScope, BadShellWord, BadWords
from everypipe.fields import fields_of
from everypipe.globfields import items_of, strings_of_field
from everypipe.needs import Asker, NeedOpen, SumRefused
from everypipe.shellforms import first_wrong_word, fits
from everypipe.wordforms import is_all_word


def strings_of_word(word, scope, asker):
    if is_all_word(word):
        return list(scope[1])
    strings = []
    for field in fields_of(chunks_of(word, scope, asker)):
        strings.extend(strings_of_field(field, asker))
    return strings


def expanded(words, scope, answers):
    at = first_wrong_word(words)
    if at is not None:
        raise BadWords(at)
    if not is_scope(scope):
        raise BadScope(scope)
    return words_told(words, scope, answers)


def words_told(words, scope, answers):
    """As expanded, of words and a scope that are right."""
    asker = Asker(answers)
    strings = []
    try:
        for word in words:
            strings.extend(strings_of_word(word, scope, asker))
    except NeedOpen as lacking:
        return ("needs", lacking.need)
    except SumRefused as refusal:
        return ("refused", refusal.why)
    return ("words", strings)


def chunks_told(word, scope, answers):
    """The pair ("chunks", the chunks of one word), or what is told in the place of what they make."""
    asker = Asker(answers)
    try:
        return ("chunks", chunks_of(word, scope, asker))
    except NeedOpen as lacking:
        return ("needs", lacking.need)
    except SumRefused as refusal:
        return ("refused", refusal.why)


def check_word(word, scope):
    if not fits("bare", word):
        raise BadShellWord(word)
    if not is_scope(scope):
        raise BadScope(scope)


def assigned(word, scope, answers):
    check_word(word, scope)
    return text_told(word, scope, answers)


def text_told(word, scope, answers):
    """As assigned, of a word and a scope that are right."""
    told = chunks_told(word, scope, answers)
    if told[0] != "chunks":
        return told
    return ("text", "".join([text for text, _ in told[1]]))


def glob_of(word, scope, answers):
    check_word(word, scope)
    return glob_told(word, scope, answers)


def glob_told(word, scope, answers):
    """As glob_of, of a word and a scope that are right."""
    told = chunks_told(word, scope, answers)
    if told[0] != "chunks":
        return told
    return ("glob", items_of([(sign, way == "held") for text, way in told[1] for sign in text]))


def sum_names(total):
    """The NAMES in a sum."""
    names = []
    waiting = [total]
    while len(waiting) > 0:
        part = waiting.pop()
        if part[0] == "name":
            names.append(part[1])
        elif part[0] != "number":
            waiting.extend(list(part[1:]))
    return names


def asks(words):
    at = first_wrong_word(words)
    if at is not None:
        raise BadWords(at)
    found = {}
    waiting = [piece for word in words for piece in word]
    while len(waiting) > 0:
        piece = waiting.pop()
        if piece[0] in ("value", "size", "else"):
            found[piece[1]] = True
        elif piece[0] == "all":
            found["@"] = True
        elif piece[0] == "sum":
            for name in sum_names(piece[1]):
                found[name] = True
        if piece[0] == "else":
            waiting.extend(list(piece[2]))
    return sorted(found)
