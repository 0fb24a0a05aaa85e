"""The signs that processes are sent: their statuses, lists of them, and actors that do not hear some."""

from everypipe.kinds import is_listed, is_listed_of, is_number
from everypipe.refusals import BadActor, BadSign, BadSigns

SIGN_NUMBERS = {"int": 2, "kill": 9, "term": 15}


def is_sign_word(thing):
    return isinstance(thing, str) and thing in SIGN_NUMBERS


def sign_status(sign):
    if not is_sign_word(sign):
        raise BadSign(sign)
    return 128 + SIGN_NUMBERS[sign]


def is_sign_answer(thing):
    """Whether an answer is a sign that came."""
    return is_listed_of(thing, 2) and thing[0] == "sign" and is_sign_word(thing[1])


def is_process_name(thing):
    return is_listed(thing) and len(thing) > 0 and all([is_number(part) for part in thing])


def is_signal(thing):
    return is_listed_of(thing, 3) and is_process_name(thing[0]) and is_number(thing[1]) and is_sign_word(thing[2])


def is_signals(thing):
    if not is_listed(thing) or not all([is_signal(signal) for signal in thing]):
        return False
    last = {}
    for process, many, _ in thing:
        name = tuple(process)
        if last.get(name, 0) > many:
            return False
        last[name] = many
    return True


class LeavingOut:
    """An actor that is as another one, but is handed no answers that are some signs."""

    def __init__(self, actor, signs):
        self.actor = actor
        self.signs = signs

    def __call__(self, answers):
        if not is_listed(answers):
            return self.actor(answers)
        return self.actor([answer for answer in answers if not self.is_left_out(answer)])

    def is_left_out(self, answer):
        return is_sign_answer(answer) and answer[1] in self.signs

    def __eq__(self, other):
        return isinstance(other, LeavingOut) and self.actor == other.actor and self.signs == other.signs


def leaving_out(actor, signs):
    if actor is None or isinstance(actor, (int, str, list, tuple, dict)):
        raise BadActor(actor)
    if not is_listed(signs):
        raise BadSigns(0)
    for at, sign in enumerate(signs):
        if not (isinstance(sign, str) and sign in ("int", "term")):
            raise BadSigns(at)
    return LeavingOut(actor, [word for word in ("int", "term") if word in signs])
