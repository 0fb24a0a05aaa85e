"""What a sum of the shell comes to."""

from everypipe.errors import BadSum, BadValues
from everypipe.kinds import FIGURES, is_name, is_string_of, is_text
from everypipe.shellforms import fits


def is_values(thing):
    if not isinstance(thing, dict):
        return False
    return all([is_name(name) and is_text(text) for name, text in thing.items()])


def number_of(text):
    """The number that a value is read as, None if it is not read as one."""
    if text == "":
        return 0
    figures = text[1:] if text.startswith("-") else text
    if figures == "" or not is_string_of(figures, FIGURES):
        return None
    return -int(figures) if text.startswith("-") else int(figures)


def toward_nought(one, other):
    parts = abs(one) // abs(other)
    return parts if (one < 0) == (other < 0) else -parts


def joined_numbers(sign, one, other):
    """What a sign makes of two numbers, none of which it is divided by being 0."""
    if sign == "+":
        return one + other
    if sign == "-":
        return one - other
    if sign == "*":
        return one * other
    if sign == "/":
        return toward_nought(one, other)
    if sign == "~":
        return one - toward_nought(one, other) * other
    if sign == "<":
        return 1 if one < other else 0
    if sign == "<=":
        return 1 if one <= other else 0
    return 1 if one == other else 0


def counted(total, values):
    """As sum_value, of what is known to be right; what waits stands in a list, its parts on top of it."""
    waiting = [(total, False)]
    numbers = []
    while len(waiting) > 0:
        part, is_ready = waiting.pop()
        word = part[0]
        if word == "number":
            numbers.append(part[1])
        elif word == "name":
            number = number_of(values.get(part[1], ""))
            if number is None:
                return ("refused", ("number", part[1]))
            numbers.append(number)
        elif not is_ready:
            waiting.append((part, True))
            waiting.extend([(inner, False) for inner in part[:0:-1]])
        elif word == "less":
            numbers.append(-numbers.pop())
        else:
            other = numbers.pop()
            if other == 0 and word in ("/", "~"):
                return ("refused", ("nought",))
            numbers.append(joined_numbers(word, numbers.pop(), other))
    return ("number", numbers[0])


def sum_value(total, held):
    if not fits("sum", total):
        raise BadSum(total)
    if not is_values(held):
        raise BadValues(held)
    return counted(total, held)
