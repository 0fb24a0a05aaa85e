"""Promise [4.3]: what sums come to."""

import unittest

from everypipe.errors import BadSum, BadValues
from everypipe.shellreading import read_script
from everypipe.shellsums import sum_value
from helper import Maker, any_objects, changed, is_alike


def sum_of(text):
    return read_script("$((" + text + "))")[0][0][2][0][0][1]


def plainly(total, held):
    """The same by calls: the value, or what is refused."""
    word = total[0]
    if word == "number":
        return total[1], None
    if word == "name":
        text = held.get(total[1], "")
        figures = text[1:] if text[:1] == "-" else text
        if text == "":
            return 0, None
        if figures == "" or any(sign not in "0123456789" for sign in figures):
            return None, ("number", total[1])
        return int(text), None
    values = []
    for part in total[1:]:
        value, why = plainly(part, held)
        if why:
            return None, why
        values.append(value)
    if word == "less":
        return -values[0], None
    one, other = values
    if word in "/~":
        if other == 0:
            return None, ("nought",)
        result = abs(one) // abs(other) * (1 if one * other >= 0 else -1)
        return (result if word == "/" else one - result * other), None
    return {"+": one + other, "-": one - other, "*": one * other, "<": int(one < other), "<=": int(one <= other),
            "=": int(one == other)}[word], None


class Sums(unittest.TestCase):
    def comes_to(self, text, number, held=None):
        total = sum_of(text)
        self.assertTrue(is_alike(sum_value(total, held or {}), ("number", number)), text)
        self.assertTrue(is_alike(sum_value(changed(total), held or {}), ("number", number)), text)

    def refused(self, text, why, held=None):
        self.assertTrue(is_alike(sum_value(sum_of(text), held or {}), ("refused", why)), text)

    def test_signs(self):
        for text, number in [("1+2*3", 7), ("7-9", -2), ("2*-3", -6), ("-(2+3)", -5), ("1<2", 1), ("2<2", 0), ("2<=2", 1),
                             ("3<=2", 0), ("2=2", 1), ("1=2", 0), ("7/2", 3), ("-7/2", -3), ("7/-2", -3), ("-7/-2", 3),
                             ("7~2", 1), ("-7~2", -1), ("7~-2", 1), ("-7~-2", -1), ("6~3", 0), ("-6~3", 0), ("0/5", 0),
                             ("0~5", 0), ("1/2", 0), ("-1/2", 0), ("0", 0), ("-0", 0), ("999999999*999999999", 999999998000000001)]:
            self.comes_to(text, number)

    def test_values(self):
        held = {"a": "12", "b": "-3", "c": "", "d": "007", "e": "-0", "f": "-", "g": "x", "h": " 1", "i": "1\n", "j": "+1",
                "k": "--1", "l": "1" * 30, "m": "1_0"}
        for name, number in [("a", 12), ("b", -3), ("c", 0), ("d", 7), ("e", 0), ("z", 0), ("l", int("1" * 30))]:
            self.comes_to(name, number, held)
        for name in "fghijkm":
            self.refused(name, ("number", name), held)
        self.comes_to("a*b-c", -36, held)

    def test_refused(self):
        held = {"x": "q", "y": "r"}
        self.refused("1/0", ("nought",))
        self.refused("1~0", ("nought",))
        self.refused("0/0", ("nought",))
        self.refused("1/z", ("nought",), held)
        self.refused("x+y", ("number", "x"), held)
        self.refused("y+x", ("number", "y"), held)
        self.refused("1/0+x", ("nought",), held)
        self.refused("x+1/0", ("number", "x"), held)
        self.refused("x/0", ("number", "x"), held)
        self.refused("1/(0*x)", ("number", "x"), held)
        self.refused("(1/0)/(x)", ("nought",), held)
        self.refused("-x", ("number", "x"), held)

    def test_made_up_sums(self):
        maker = Maker(5)
        for _ in range(500):
            total = maker.sum(4)
            held = {name: maker.pick(["", "0", "5", "-7", "x", "12"]) for name in ["a", "b", "x", "ab"]}
            before = (changed(changed(total)), dict(held))
            value, why = plainly(total, held)
            wanted = ("refused", why) if why else ("number", value)
            self.assertTrue(is_alike(sum_value(total, held), wanted), (total, held))
            self.assertEqual((total, held), before)

    def test_deep_sums(self):
        total = ("number", 1)
        for _ in range(400):
            total = ("+", total, ("number", 1))
        self.assertEqual(sum_value(total, {}), ("number", 401))

    def test_wrong(self):
        right = ("number", 1)
        for thing in any_objects():
            with self.assertRaises(BadSum) as caught:
                sum_value(thing, None)
            self.assertIs(caught.exception.total, thing)
            if thing == {}:
                continue
            with self.assertRaises(BadValues) as caught:
                sum_value(total=right, held=thing)
            self.assertIs(caught.exception.held, thing)
        for held in [{"a": None}, {"A": ""}, {"a": "%"}, {1: ""}, {"a": ["1"]}, {"abcdefghi": ""}, {"": ""}, {"a": "\t"}]:
            with self.assertRaises(BadValues):
                sum_value(right, held)
        self.assertEqual(sum_value(right, {"a": "b \n"}), ("number", 1))


if __name__ == "__main__":
    unittest.main()
