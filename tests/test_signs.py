"""Promises [12.1], and leaving_out of [12.2]; of the example [12.7] the signs' statuses."""

import unittest

from everypipe.actors import actor_of
from everypipe.errors import BadAnswers, PipeError
from everypipe.programs import Program
from everypipe.refusals import BadActor, BadSign, BadSigns
from everypipe.signs import is_signals, leaving_out, sign_status
from helper import any_objects, changed, is_alike

INT, KILL, TERM = ("sign", "int"), ("sign", "kill"), ("sign", "term")
ROWS = [("take", 0, "a", 2), ("put", 1, [("line", "a")])]


class Recorder:
    """An actor that keeps the very lists that it is handed."""

    def __init__(self):
        self.handed = []

    def __call__(self, answers):
        self.handed.append(answers)
        return ("over", 0)


class Signs(unittest.TestCase):
    def test_statuses(self):
        self.assertEqual([sign_status(sign) for sign in ("int", "kill", "term")], [130, 137, 143])
        self.assertEqual(sign_status(sign="int"), 130)
        for thing in [*any_objects(), "INT", "hup", "exit", "int ", 2, ["int"], ("int",)]:
            with self.assertRaises(BadSign) as caught:
                sign_status(thing)
            self.assertIs(caught.exception.sign, thing)
            self.assertIsInstance(caught.exception, PipeError)

    def test_is_signals(self):
        for thing in [[], [((0,), 0, "int")], [((0,), 3, "term"), ((0,), 3, "kill"), ((0,), 3, "int"), ((0,), 4, "int")],
                      [((1,), 5, "int"), ((0,), 2, "int"), ((1,), 5, "int"), ((0, 7), 0, "int"), ((1,), 6, "term")]]:
            self.assertIs(is_signals(thing), True, thing)
            self.assertIs(is_signals(thing=changed(thing)), True, thing)
        self.assertFalse(is_signals([((0,), 2, "int"), ((1,), 0, "int"), [[0], 1, "int"]]))
        for signal in [None, "abc", (), ((0,), 0), ((0,), 0, "int", 0), ((), 0, "int"), (0, 0, "int"), ("0", 0, "int"),
                       ((-1,), 0, "int"), ((True,), 0, "int"), (("0",), 0, "int"), (((0,),), 0, "int"), ((0,), -1, "int"),
                       ((0,), True, "int"), ((0,), None, "int"), ((0,), "0", "int"), ((0,), 0, "exit"), ((0,), 0, None),
                       ((0,), 0, ["int"]), ((0,), 0, 2), ((0, None), 0, "int")]:
            self.assertIs(is_signals([signal]), False, signal)
            self.assertIs(is_signals([((0,), 0, "int"), signal]), False, signal)
        for thing in any_objects():
            right = thing in ([], ()) or is_alike(thing, [((1,), 0, "int")])
            self.assertIs(is_signals(thing), right, thing)

    def test_of_one_process_ascending(self):
        self.assertFalse(is_signals([((0,), 1, "int"), ((0,), 0, "int")]))
        self.assertFalse(is_signals([((0, 1), 1, "int"), ((0,), 0, "int"), ((0, 1), 0, "int")]))
        self.assertTrue(is_signals([((0, 1), 1, "int"), ((0,), 0, "int"), ((1,), 0, "int")]))


class LeavingOut(unittest.TestCase):
    def test_left_out(self):
        actor = actor_of(Program(ROWS))
        deaf = leaving_out(actor, ["int"])
        self.assertEqual(deaf([]), ("take", 0))
        self.assertEqual(deaf([INT]), ("take", 0))
        self.assertEqual(deaf([INT, "u", list(INT), INT]), ("put", 1, "u"))
        self.assertEqual(deaf([INT, "u", TERM]), ("over", 143))
        self.assertEqual(deaf([KILL]), ("over", 137))
        both = leaving_out(actor=actor, signs=("term", "int", "term"))
        self.assertEqual(both(("u", TERM, INT, None)), ("over", 0))
        self.assertEqual(leaving_out(actor, [])([INT]), ("over", 130))
        self.assertEqual(leaving_out(deaf, ["term"])(["u", TERM, INT, None]), ("over", 0))
        with self.assertRaises(BadAnswers):
            deaf([("sign", "hup")])
        with self.assertRaises(BadAnswers) as caught:
            deaf(None)
        self.assertEqual(caught.exception.index, 0)

    def test_what_is_handed(self):
        recorder = Recorder()
        answers = ["int", ("int",), ("other", "int"), INT, None, ("sign", "int", 1), ["sign", "term"], ("sign", "exit")]
        before = list(answers)
        self.assertEqual(leaving_out(recorder, ["int"])(answers), ("over", 0))
        self.assertEqual(recorder.handed, [["int", ("int",), ("other", "int"), None, ("sign", "int", 1), ["sign", "term"], ("sign", "exit")]])
        self.assertEqual(answers, before)
        leaving_out(recorder, [])(answers)
        self.assertEqual(recorder.handed[1], answers)
        self.assertIsNot(recorder.handed[1], answers)
        signs = ["int"]
        actor = leaving_out(recorder, signs)
        signs.append("term")
        actor([INT, TERM])
        self.assertEqual(recorder.handed[2], [TERM])
        self.assertEqual(leaving_out(lambda handed: ("close", len(handed)), ["int"])([INT, None]), ("close", 1))

    def test_equal(self):
        actor, like = actor_of(Program(ROWS)), actor_of(Program(changed(ROWS)))
        other = actor_of(Program([]))
        self.assertTrue(leaving_out(actor, ["int"]) == leaving_out(like, ("int",)))
        self.assertFalse(leaving_out(actor, ["int"]) != leaving_out(like, ("int",)))
        self.assertFalse(leaving_out(actor, ["int"]) == leaving_out(actor, ["term"]))
        self.assertFalse(leaving_out(actor, ["int"]) == leaving_out(other, ["int"]))
        self.assertFalse(leaving_out(actor, []) == actor)
        self.assertFalse(actor == leaving_out(actor, []))
        self.assertTrue(leaving_out(len, ["int"]) == leaving_out(len, ["int"]))
        for thing in any_objects():
            self.assertFalse(leaving_out(actor, []) == thing)

    def test_wrong(self):
        for thing in [0, 1, True, False, "", "a", None, [], ["a"], (), ("a",), {}, {"a": 1}]:
            with self.assertRaises(BadActor) as caught:
                leaving_out(thing, None)
            self.assertIs(caught.exception.actor, thing)
        for thing in [None, 1, "int", "", {}, True, {"int": 1}]:
            with self.assertRaises(BadSigns) as caught:
                leaving_out(len, thing)
            self.assertEqual(caught.exception.index, 0)
        for sign in ["kill", "exit", "", "INT", None, 2, ["int"], ("term",), INT, True]:
            with self.assertRaises(BadSigns) as caught:
                leaving_out(len, ["int", "term", sign, None])
            self.assertEqual(caught.exception.index, 2)


if __name__ == "__main__":
    unittest.main()
