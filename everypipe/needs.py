"""Needs of expansion: the answers to them, and what is raised where one is lacking."""

from everypipe.errors import BadAnswers
from everypipe.kinds import is_listed, is_number_to, lines_fault
from everypipe.shellforms import told


class NeedOpen(Exception):
    """A need has no answer yet; everypipe.expansion catches it."""

    def __init__(self, need):
        self.need = need


class SumRefused(Exception):
    """A sum in a word is refused; everypipe.expansion catches it."""

    def __init__(self, why):
        self.why = why


def is_answer(need, thing):
    if need[0] == "status":
        return is_number_to(thing, 255)
    if need[0] == "list" and thing is None:
        return True
    if not is_listed(thing) or lines_fault(thing) is not None:
        return False
    return need[0] == "out" or all([thing[at] < thing[at + 1] for at in range(len(thing) - 1)])


class Asker:
    """Some answers, handed out one behind another."""

    def __init__(self, answers):
        if not is_listed(answers):
            raise BadAnswers(0)
        self.answers = answers
        self.many = 0

    def ask(self, need):
        if self.many >= len(self.answers):
            raise NeedOpen(need)
        answer = self.answers[self.many]
        if not is_answer(need, answer):
            raise BadAnswers(self.many)
        self.many = self.many + 1
        return answer

    def out_text(self, pairs):
        """What an out puts: its lines with line feeds between, those at the end gone."""
        lines = self.ask(("out", told("list", pairs)))
        return "\n".join(lines).rstrip("\n")
