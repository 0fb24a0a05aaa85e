"""Promises [3.1], [3.2], and of [3.5] what it says of quoted."""

import unittest

from everypipe.errors import BadHeldText, PipeError
from everypipe.shellreading import read_script
from everypipe.shelltrees import is_script, quoted
from everypipe.wordforms import PLAIN
from helper import KEPT, Maker, SIGNS, any_objects, changed, is_alike
from helper import PLAIN as PLAIN_SIGNS

A = [("plain", "a")]
RUN = ("run", [], [A], [])
LIST = [(RUN, False)]


def script_of(command):
    return [(command, False)]


def with_word(word):
    return script_of(("run", [], [A, word], []))


def with_turn(turn):
    return script_of(("run", [], [A], [turn]))


class Looked(unittest.TestCase):
    """What both classes below share; it has no test of its own."""

    def right(self, script):
        self.assertIs(is_script(script), True, script)
        self.assertIs(is_script(changed(script)), True, script)

    def wrong(self, script):
        self.assertIs(is_script(script), False, script)
        self.assertIs(is_script(changed(script)), False, script)


class Words(Looked):
    def test_plain_signs(self):
        self.assertEqual(PLAIN, PLAIN_SIGNS)
        self.assertEqual(sorted(PLAIN + " ;&|<>(){}'\"\\$#!`"), list(SIGNS))
        for sign in SIGNS + "%\n\t\u00e9":
            (self.right if sign in PLAIN_SIGNS else self.wrong)(with_word([("plain", sign)]))
            (self.right if sign in SIGNS + "\n" else self.wrong)(with_word([("held", sign)]))

    def test_texts(self):
        self.wrong(with_word([]))
        self.wrong(with_word([("plain", "")]))
        self.right(with_word([("held", "")]))
        self.wrong(with_word([("plain", None)]))
        self.wrong(with_word([("held", 1)]))
        self.wrong(with_word([("held", ["a"])]))
        self.wrong(with_word([("plain", "a", False)]))
        self.wrong(with_word([("held",)]))
        self.wrong(with_word("ab"))
        self.wrong(with_word([[]]))
        self.wrong(with_word([("other", "a")]))
        self.wrong(with_word([5, ("held", "")]))
        self.wrong(with_word([("held", ""), None]))
        self.wrong(script_of(("run", [], [[("plain", 5)]], [])))
        self.wrong(script_of(("run", [], [[("plain", "if", 5)]], [])))

    def test_side_by_side(self):
        value, open_value = ("value", "x", True), ("value", "x", False)
        self.wrong(with_word([("plain", "a"), ("plain", "b")]))
        self.wrong(with_word([("held", "a"), ("held", "b")]))
        self.right(with_word([("plain", "a"), ("held", "b"), ("plain", "c")]))
        self.right(with_word([("held", ""), open_value, ("held", "")]))
        self.wrong(with_word([("held", ""), value]))
        self.wrong(with_word([value, ("held", "")]))
        self.right(with_word([value, value, open_value, ("held", ""), open_value]))
        self.right(with_word([("held", "a"), value, ("held", "b")]))
        self.wrong(with_word([open_value, ("held", ""), ("out", LIST, True)]))
        self.wrong(with_word([("sum", ("number", 1), True), ("held", "")]))
        self.wrong(with_word([("else", "x", [], True), ("held", "")]))
        self.wrong(with_word([("size", "x", True), ("held", "")]))

    def test_parameters(self):
        for parameter in ["a", "abcdefgh", "a1", "z9", "1", "9", "?", "#"]:
            self.right(with_word([("value", parameter, False)]))
        for parameter in ["", "0", "10", "abcdefghi", "1a", "A", "a_", "@", "!", None, 1, ["a"], "a\n"]:
            self.wrong(with_word([("value", parameter, False)]))
            self.wrong(with_word([("size", parameter, False)]))
            self.wrong(with_word([("else", parameter, [], False)]))
        for parameter in ["?", "#"]:
            self.wrong(with_word([("size", parameter, False)]))
            self.wrong(with_word([("else", parameter, A, False)]))
        for is_held in [0, 1, None, "True", []]:
            self.wrong(with_word([("value", "x", is_held)]))
            self.wrong(with_word([("size", "x", is_held)]))
            self.wrong(with_word([("else", "x", A, is_held)]))
            self.wrong(with_word([("out", LIST, is_held)]))
            self.wrong(with_word([("sum", ("number", 1), is_held)]))
        self.wrong(with_word([("value", "x")]))
        self.wrong(with_word([("value", "x", A, False)]))
        self.wrong(with_word([("else", "x", False)]))

    def test_inner_words_and_lists(self):
        self.right(with_word([("else", "x", [], True)]))
        self.right(with_word([("else", "1", A, False)]))
        self.wrong(with_word([("else", "x", [("all",)], False)]))
        self.wrong(with_word([("else", "x", [("plain", "")], False)]))
        self.wrong(with_word([("out", [], False)]))
        self.right(with_word([("out", LIST, True)]))
        self.wrong(with_word([("out", [(RUN, 0)], True)]))

    def test_all_arguments(self):
        every = [("all",)]
        self.right(with_word(every))
        self.right(script_of(("for", "x", [every, A, every], LIST, [])))
        self.wrong(with_word([("all",), ("plain", "a")]))
        self.wrong(with_word([("plain", "a"), ("all",)]))
        self.wrong(with_word([("all", False)]))
        self.wrong(script_of(("run", [("x", every)], [], [])))
        self.wrong(with_turn((1, ">", every)))
        self.wrong(script_of(("case", every, [([A], LIST)], [])))
        self.wrong(script_of(("case", A, [([every], LIST)], [])))

    def test_sums(self):
        def with_sum(total):
            return with_word([("sum", total, False)])

        one = ("number", 1)
        for sign in ["+", "-", "*", "/", "~", "<", "<=", "="]:
            self.right(with_sum((sign, one, ("name", "x"))))
            self.wrong(with_sum((sign, one)))
            self.wrong(with_sum((sign, one, one, one)))
        for number in [0, 999999999]:
            self.right(with_sum(("number", number)))
        for number in [1000000000, -1, True, False, None, "1", [1]]:
            self.wrong(with_sum(("number", number)))
        for name in ["", "abcdefghi", "1", "?", 1, None]:
            self.wrong(with_sum(("name", name)))
        self.right(with_sum(("less", ("less", one))))
        self.wrong(with_sum(("less", one, one)))
        self.wrong(with_sum(("<", one, 1)))
        self.wrong(with_sum((">", one, one)))
        self.wrong(with_sum(()))
        self.wrong(with_sum(one[0]))


class Commands(Looked):
    def test_lists(self):
        self.right([])
        self.right(LIST)
        self.right(LIST * 3)
        self.right([(RUN, True)])
        for is_back in [0, 1, None, "a"]:
            self.wrong([(RUN, is_back)])
        self.wrong([(RUN,)])
        self.wrong([RUN])
        self.wrong([(RUN, False, False)])
        self.wrong(script_of(None))
        self.wrong(script_of(("other", [])))

    def test_runs(self):
        self.wrong(script_of(("run", [], [], [])))
        self.right(script_of(("run", [("x", [])], [], [])))
        self.right(script_of(("run", [], [], [(0, "-", None)])))
        self.wrong(script_of(("run", [], [A])))
        self.wrong(script_of(("run", [("X", A)], [], [])))
        self.wrong(script_of(("run", [("x",)], [], [])))
        self.wrong(script_of(("run", ["x"], [], [])))
        self.wrong(script_of(("run", "", [A], [])))
        self.wrong(script_of(("run", [], "a", [])))
        self.wrong(script_of(("run", [], [A], None)))

    def test_first_words(self):
        for word in KEPT:
            kept = [("plain", word)]
            self.wrong(script_of(("run", [], [kept], [])))
            self.wrong(script_of(("run", [], [kept, A], [(0, "-", None)])))
            self.right(script_of(("run", [("x", [])], [kept], [])))
            self.right(script_of(("run", [], [A, kept], [])))
            self.right(script_of(("run", [], [[*kept, ("held", "")]], [])))
            self.right(script_of(("run", [], [[("held", word)]], [])))
            self.right(script_of(("run", [], [[("plain", word + "x")]], [])))
        self.right(script_of(("run", [], [[("plain", "in")]], [])))
        for text in ["x=", "x=1", "abcdefgh=a", "x==", "if=1"]:
            word = [("plain", text)]
            self.wrong(script_of(("run", [], [word], [])))
            self.wrong(script_of(("run", [("x", [])], [word], [])))
            self.wrong(script_of(("run", [], [[*word, ("held", "a")]], [])))
            self.right(script_of(("run", [], [A, word], [])))
            self.right(script_of(("run", [], [[("held", text)]], [])))
        for text in ["=", "=x", "1=x", "X=1", "abcdefghi=1", "x-=1", "x"]:
            self.right(script_of(("run", [], [[("plain", text)]], [])))

    def test_turns(self):
        for way in ["<", ">", ">>", "<:"]:
            self.right(with_turn((9, way, A)))
            for what in [None, 1, [], "a"]:
                self.wrong(with_turn((1, way, what)))
        for n in [10, -1, True, None, "1"]:
            self.wrong(with_turn((n, ">", A)))
            self.wrong(with_turn((1, "&", n)))
        self.right(with_turn((0, "&", 9)))
        self.wrong(with_turn((0, "&", None)))
        self.right(with_turn((0, "-", None)))
        self.wrong(with_turn((0, "-", 1)))
        self.wrong(with_turn((0, "-")))
        self.wrong(with_turn((0, ">&", 1)))
        self.wrong(with_turn((0, ["<"], A)))

    def test_rows_and_chains(self):
        row, negated = ("row", [RUN, RUN]), ("not", RUN)
        both, either = ("and", RUN, RUN), ("or", RUN, RUN)
        self.right(script_of(row))
        self.wrong(script_of(("row", [RUN])))
        self.wrong(script_of(("row", [])))
        for command in [row, negated, both, either]:
            self.wrong(script_of(("row", [RUN, command])))
            self.wrong(script_of(("row", [command, RUN])))
        self.right(script_of(("not", row)))
        for command in [negated, both, either]:
            self.wrong(script_of(("not", command)))
        for word in ["and", "or"]:
            for command in [row, negated, both, either, RUN]:
                self.right(script_of((word, command, RUN)))
            for command in [row, negated, RUN]:
                self.right(script_of((word, RUN, command)))
            for command in [both, either]:
                self.wrong(script_of((word, RUN, command)))
            self.wrong(script_of((word, RUN)))

    def test_others(self):
        turn = (1, ">", A)
        cases = [([A], LIST)]
        self.right(script_of(("group", LIST, [turn])))
        self.right(script_of(("sub", LIST, [])))
        self.right(script_of(("if", LIST, LIST, None, [turn])))
        self.right(script_of(("if", LIST, LIST, LIST, [])))
        self.right(script_of(("while", LIST, LIST, [turn])))
        self.right(script_of(("for", "x", [], LIST, [turn])))
        self.right(script_of(("case", A, cases, [turn])))
        self.right(script_of(("case", [("held", "")], cases * 2, [])))
        self.right(script_of(("def", "f", LIST)))
        for command in [("group", [], []), ("sub", [], []), ("group", LIST), ("group", LIST, [A]), ("group", None, []),
                        ("if", [], LIST, None, []), ("if", LIST, [], None, []), ("if", LIST, LIST, [], []),
                        ("if", None, LIST, None, []), ("if", LIST, LIST, []), ("while", [], LIST, []),
                        ("while", LIST, [], []), ("while", LIST, None, []), ("for", "X", [], LIST, []),
                        ("for", "x", [], [], []), ("for", "x", [[]], LIST, []), ("case", A, [], []),
                        ("case", [], cases, []), ("case", A, [([], LIST)], []), ("case", A, [([A], [])], []),
                        ("case", A, [([[]], LIST)], []), ("case", A, [([A],)], []), ("def", "F", LIST),
                        ("def", "f", []), ("def", "f", LIST, []), ("not",), ("run", [], [A], [], [])]:
            self.wrong(script_of(command))

    def test_any_object(self):
        right = [thing for thing in any_objects() if is_script(thing)]
        for thing in any_objects():
            self.assertIsInstance(is_script(thing), bool)
        self.assertTrue(all(thing in ([], (), [[]]) for thing in right), right)
        self.assertTrue(is_script(thing=[]))

    def test_made_up_scripts(self):
        maker = Maker(1)
        for _ in range(200):
            self.right(maker.script())

    def test_deep_ones(self):
        command = RUN
        for _ in range(300):
            command = ("group", [(command, False)], [])
        self.right_deep([(command, False)])
        total = ("number", 1)
        for _ in range(300):
            total = ("less", total)
        self.right_deep(with_word([("sum", total, False)]))

    def right_deep(self, script):
        self.assertIs(is_script(script), True)


class Quoted(unittest.TestCase):
    def test_quoted(self):
        for text in ["", "a", "if", "$x `b`", "a\nb", SIGNS]:
            self.assertTrue(is_alike(quoted(text), [("held", text)]))
            self.assertTrue(is_alike(quoted(text=text), [("held", text)]))
            self.assertEqual(read_script("a '" + text.replace("'", "'\\''") + "'")[0][0][2][1], quoted(text))
        self.assertIsNot(quoted("a"), quoted("a"))

    def test_wrong(self):
        wrong = [thing for thing in any_objects() if not isinstance(thing, str)] + ["%", "a%", "\t", "\u00e9", "\r"]
        for thing in wrong:
            with self.assertRaises(BadHeldText) as caught:
                quoted(thing)
            self.assertIs(caught.exception.text, thing)
            self.assertIsInstance(caught.exception, PipeError)


if __name__ == "__main__":
    unittest.main()
