"""Promises [20.1], [20.2], [20.3], and the example [20.4]."""

import unittest

from everypipe.errors import BadMany, BadRooms, BadShellText, BadTree
from everypipe.onerun import script_word
from everypipe.outcomes import script_outcome
from everypipe.refusals import BadSchedule, BadSchedules, BadTexts
from everypipe.sessions import Session, first_loose, replayed
from everypipe.shellreading import read_script, script_fault
from helper import any_objects, is_alike, is_new
from made_machines import MachineMaker, raised

ONE = {(): 1}
RACE = "say b >> f & say c >> f; wait"
WRONG_TREES = [None, 1, [], {"A": []}, {"a": None}, {"out": []}, {"err": []}, {"out": {}}, {"a": {}, "err": {}}]
WRONG_ROOMS = [None, {}, [], {(): 0}, {(): True}, {(0,): 1}]


def session(*texts, tree=None, many=500):
    made = Session(tree or {}, ONE)
    for text in texts:
        made.enter(text, [], many)
    return made


def all_of(made):
    return (made.now(), made.history(), made.defined())


class Entries(unittest.TestCase):
    def test_example(self):
        made = Session({}, ONE)
        self.assertEqual(made.enter("def twice { cat | tee 3 3>&1; }", [], 500)[0][0], "ends")
        self.assertTrue(is_alike(made.defined(), ["twice"]))
        made.enter("say a > f", [], 500)
        self.assertTrue(is_alike(made.now(), {"f": ["a"]}))
        made.enter(text="twice < f > g", schedule=[], many=500)
        self.assertTrue(is_alike(made.now(), {"f": ["a"], "g": ["a", "a"]}))
        self.assertNotEqual(made.word(RACE, 500), ("one",))

    def test_what_is_told(self):
        made = Session({"f": ["u"], "d": {}}, {(): 2})
        told = made.enter("cat < f; say e >&2; exit 3", (5, 1), 500)
        self.assertTrue(is_alike(told, (("ends", 3, {"d": {}, "err": ["e"], "f": ["u"], "out": ["u"]}, 0), ["u"], ["e"])))
        self.assertTrue(is_new(told, made.now()))
        self.assertTrue(is_alike(made.now(), {"d": {}, "f": ["u"]}))
        self.assertTrue(is_alike(made.history(), [("cat < f; say e >&2; exit 3", "ends")]))
        told[0][2]["f"].append("x")
        told[1].append("x")
        made.now()["f"].append("x")
        made.history().append(1)
        made.defined().append(1)
        self.assertEqual(all_of(made), ({"d": {}, "f": ["u"]}, [("cat < f; say e >&2; exit 3", "ends")], []))

    def test_empty(self):
        made = Session(tree={}, rooms={(): 3})
        self.assertEqual(all_of(made), ({}, [], []))
        self.assertEqual(made.enter("", [], 1), (("ends", 0, {"err": [], "out": []}, 0), [], []))
        self.assertEqual(made.enter("cat; say $#", [], 99)[1], ["0"])

    def test_cut_off(self):
        made = session("def a { say a; }", tree={"f": []})
        told = made.enter("def b { say b; }; say x; say y >&2; say z > f; while true; do true; end", [], 30)
        self.assertTrue(is_alike(told, (("many",), ["x"], ["y"])))
        self.assertEqual(all_of(made), ({"f": []}, [("def a { say a; }", "ends"), ("def b { say b; }; say x; say y >&2; say z > f; while true; do true; end", "many")], ["a"]))
        self.assertEqual(made.enter("say x", [], 0), (("many",), [], []))

    def test_definitions(self):
        made = session("def a { say 1; }; def b { a; }")
        self.assertEqual(made.enter("b; def a { say 2; }; a", [], 500)[1], ["1", "2"])
        self.assertEqual(made.enter("b", [], 500)[1], ["2"])
        self.assertEqual(made.defined(), ["a", "b"])
        # In the background, within another command, in an entry that does not end: no definition.
        made.enter("def c { say c; } & wait; { def d { say d; }; }; true && def e { say e; }; if true; then def g { say g; }; end; def h { say h; } | cat; ( def i { say i; } )", [], 500)
        made.enter("def j { say j; }; while true; do true; end", [], 300)
        self.assertEqual(made.defined(), ["a", "b"])
        # Come to or not, the latest one by its place.
        self.assertEqual(made.enter("def k { say 1; }; def k { say 2; }; exit 4; def a { say 3; }; def l { say l; }", [], 500)[0][1], 4)
        self.assertEqual(made.defined(), ["a", "b", "k", "l"])
        self.assertEqual(made.enter("k; b; l", [], 500)[1], ["2", "3", "l"])

    def test_what_holds_is_begun_ahead_in_the_same_list(self):
        # The thousandth command that is begun without a wish is not done: definitions are such ones, too.
        text = "x='" + "a " * 900 + "'; for i in $x; do is b; end"
        statuses = [session(*["def d" + str(at) + " { true; }" for at in range(many)]).enter(text, [], 500)[0][1] for many in (0, 97, 98)]
        self.assertEqual(statuses, [0, 0, 125])

    def test_as_script_outcome(self):
        maker = MachineMaker(201)
        for _ in range(60):
            tree, definitions, made = {"f": ["x"]}, {}, Session({"f": ["x"]}, {(): 2})
            for _ in range(4):
                text = maker.pick(["", "", "def a { " + maker.script_row() + "; }\n", "def b { a | cat; }\n", "def a { say k; } &\n"]) + maker.pick([maker.script_text(), maker.script_text(), "a", "a; b"])
                schedule, many = maker.schedule(), maker.pick([400, 400, 25])
                script = [(("def", name, pairs), False) for name, pairs in definitions.items()] + read_script(text)
                outcome = script_outcome(script, tree, [], [], {(): 2}, schedule, many)
                word = script_word(script, tree, [], [], {(): 2}, many)
                self.assertTrue(is_alike(made.word(text=text, many=many), word))
                told = made.enter(text, schedule, many)
                self.assertTrue(is_alike(told[0], outcome))
                if outcome[0] != "many":
                    self.assertEqual(told[1:], (outcome[2]["out"], outcome[2]["err"]))
                if outcome[0] == "ends":
                    tree = {name: thing for name, thing in outcome[2].items() if name not in ("out", "err")}
                    for command, is_back in read_script(text):
                        if command[0] == "def" and not is_back:
                            definitions.pop(command[1], None)
                            definitions[command[1]] = command[2]
                self.assertTrue(is_alike(made.now(), tree))
                self.assertEqual(made.defined(), sorted(definitions))
                self.assertEqual(made.history()[-1], (text, outcome[0]))

    def test_what_is_passed_stays(self):
        tree, rooms, schedule = {"f": ["u"]}, {(): 1}, [1, 2]
        made = Session(tree, rooms)
        made.enter("say a >> f", schedule, 99)
        self.assertEqual((tree, rooms, schedule), ({"f": ["u"]}, {(): 1}, [1, 2]))
        tree["f"].clear()
        rooms.clear()
        self.assertEqual(made.enter("cat < f", [], 99)[1], ["u", "a"])

    def test_wrong(self):
        for tree in WRONG_TREES:
            for function in (Session, lambda tree, rooms: replayed(tree, rooms, None, None, None), lambda tree, rooms: first_loose(tree, rooms, None, None)):
                self.assertIs(raised(BadTree, function, tree, None).tree, tree)
        for rooms in WRONG_ROOMS:
            for function in (Session, lambda tree, rooms: replayed(tree, rooms, None, None, None), lambda tree, rooms: first_loose(tree, rooms, None, None)):
                self.assertIs(raised(BadRooms, function, {}, rooms).rooms, rooms)
        made = session("say a > f", "say b >> f")
        made.undo()
        twin = made.copy()
        for thing in any_objects() + ["a | | b", "if a; then b", "end x", "a$@"]:
            if script_fault(thing) is not None:
                for function in (lambda text: made.enter(text, None, None), lambda text: made.word(text, None)):
                    caught = raised(BadShellText, function, thing)
                    self.assertEqual((caught.line, caught.sign), script_fault(thing))
        for schedule, index in [(None, 0), ("0", 0), ([0, -1], 1), ([True], 0), ([0, 1, None], 2)]:
            self.assertEqual(raised(BadSchedule, made.enter, "say a", schedule, None).index, index)
        for many in [None, -1, True, "9", []]:
            self.assertIs(raised(BadMany, made.enter, "say a", [], many).many, many)
            self.assertIs(raised(BadMany, made.word, "say a", many).many, many)
        self.assertTrue(made == twin)
        self.assertEqual(made.redo(), "say b >> f")


class BackAndForth(unittest.TestCase):
    def test_undo_and_redo(self):
        texts = ["say a > f", "def d { say x; }; say b >> f", "while true; do true; end", "d > g"]
        made = session(*texts, many=60)
        stands = [all_of(session(*texts[:many], many=60)) for many in range(5)]
        self.assertEqual(all_of(made), stands[4])
        self.assertIsNone(made.redo())
        for many in (3, 2, 1, 0):
            self.assertEqual(made.undo(), texts[many])
            self.assertTrue(is_alike(all_of(made), stands[many]))
        self.assertIsNone(made.undo())
        self.assertEqual(all_of(made), stands[0])
        for many in (1, 2, 3, 4):
            self.assertEqual(made.redo(), texts[many - 1])
            self.assertTrue(is_alike(all_of(made), stands[many]))
        self.assertIsNone(made.redo())
        made.undo(), made.undo(), made.redo()
        self.assertEqual(all_of(made), stands[3])

    def test_put_back_as_it_was(self):
        made = Session({"f": []}, ONE)
        made.enter(RACE, [0] * 40, 500)
        left = made.now()
        self.assertEqual(Session({"f": []}, ONE).enter(RACE, [], 500)[0][2]["f"], left["f"][::-1])
        made.undo()
        self.assertEqual(made.now(), {"f": []})
        made.redo()
        self.assertEqual(made.now(), left)

    def test_behind_a_new_entry(self):
        made = session("say a > f", "say b > f")
        made.undo()
        made.enter("say c > f", [], 99)
        self.assertIsNone(made.redo())
        self.assertEqual(made.history(), [("say a > f", "ends"), ("say c > f", "ends")])
        self.assertEqual(made.undo(), "say c > f")
        self.assertEqual(made.redo(), "say c > f")
        # What was not entered takes nothing away.
        made.undo()
        raised(BadShellText, made.enter, "a | | b", [], 99)
        made.word("say x", 99)
        self.assertEqual(made.redo(), "say c > f")

    def test_copies(self):
        made = session("def d { say x; }", "say a > f", "say b >> f")
        made.undo()
        copy = made.copy()
        self.assertTrue(copy == made)
        self.assertEqual(copy.redo(), "say b >> f")
        self.assertEqual((made.now(), copy.now()), ({"f": ["a"]}, {"f": ["a", "b"]}))
        made.enter("say c > f", [], 99)
        self.assertEqual((made.now(), copy.now()), ({"f": ["c"]}, {"f": ["a", "b"]}))
        self.assertEqual([copy.undo() for _ in range(4)], ["say b >> f", "say a > f", "def d { say x; }", None])
        self.assertEqual(made.defined(), ["d"])
        self.assertEqual(len(made.history()), 3)

    def test_equal(self):
        made = session("def d { say x; }", "say a > f")
        self.assertTrue(made == session("def d { say x; }", "say a > f"))
        self.assertFalse(made != session("def d { say x; }", "say a > f"))
        self.assertTrue(Session({"f": ["a"]}, ONE) == Session({"f": ("a",)}, {(): 1}))
        undone = session("def d { say x; }", "say a > f", "say b > f")
        undone.undo()
        others = [session("def d { say x; }"), session("say a > f", "def d { say x; }"), session("def d { say y; }", "say a > f"), undone, Session({"f": ["a"]}, ONE), session()]
        for other in others:
            self.assertFalse(made == other)
            self.assertTrue(made != other)
        self.assertFalse(Session({}, ONE) == Session({"f": []}, ONE))
        self.assertFalse(Session({}, ONE) == Session({}, {(): 2}))
        other = session("def d { say x; }", "say a > f", "say b > f")
        other.undo()
        self.assertTrue(undone == other)
        third = session("def d { say x; }", "say a > f", "say c > f")
        third.undo()
        self.assertFalse(undone == third)
        self.assertFalse(session("say a") == session("true"))
        for thing in any_objects():
            self.assertFalse(made == thing)
        # By another schedule the same text leaves other files.
        one, two = Session({"f": []}, ONE), Session({"f": []}, ONE)
        one.enter(RACE, [0] * 40, 500), two.enter(RACE, [1] * 40, 500)
        self.assertFalse(one == two)
        one.undo(), two.undo()
        self.assertFalse(one == two)
        one.enter("true", [], 9), two.enter("true", [], 9)
        self.assertTrue(one == two)


class Replays(unittest.TestCase):
    def test_replayed(self):
        texts, schedules = ["say a > f", "def d { cat; }", "d < f >> g", "yes a"], [[], [1, 2], (0,), [3]]
        made = replayed(tree={"g": ["u"]}, rooms=ONE, texts=texts, schedules=schedules, many=60)
        other = Session({"g": ["u"]}, ONE)
        for text, schedule in zip(texts, schedules):
            other.enter(text, schedule, 60)
        self.assertTrue(made == other)
        self.assertEqual(made.now(), {"f": ["a"], "g": ["u", "a"]})
        self.assertTrue(replayed({}, ONE, [], [], 0) == Session({}, ONE))
        self.assertTrue(replayed({}, ONE, tuple(texts), tuple(schedules), 60) == replayed({}, ONE, texts, schedules, 60))

    def test_first_loose(self):
        for texts, told in [
            ([], None), (["say a > f"], None), (["say a > f", RACE, "say b"], 1), (["say a > f", "yes a", RACE], 1), (["yes a | head 2"], None), ([RACE], 0), (["while true; do true; end"], 0),
            (["def d { say a >> f & say b >> f; wait; }", "say a > f", "d"], 2), (["def d { " + RACE + "; }", "def d { say a; }", "d"], None),
        ]:
            self.assertTrue(is_alike(first_loose({"f": []}, ONE, texts, 300), told), texts)
            self.assertTrue(is_alike(first_loose(tree={"f": []}, rooms=ONE, texts=tuple(texts), many=300), told))
        self.assertEqual(first_loose({}, ONE, ["true", "yes a | head 9"], 15), 1)

    def test_with_whatever_schedules(self):
        maker = MachineMaker(202)
        sure = 0
        for _ in range(150):
            texts = maker.some(lambda: maker.pick([maker.script_text(), maker.script_text(), "def d { " + maker.script_row() + "; }", "d > h", "d | cat"]), 1, 3)
            rooms = {(): maker.pick([1, 2])}
            loose = first_loose({"f": ["x"]}, rooms, texts, 300)
            made = Session({"f": ["x"]}, rooms)
            for at, text in enumerate(texts):
                word, ending = made.word(text, 300), made.enter(text, [], 300)[0][0]
                if word != ("one",) or ending != "ends":
                    self.assertEqual(loose, at)
                    break
            else:
                self.assertIsNone(loose)
                for _ in range(3):
                    other = replayed({"f": ["x"]}, rooms, texts, [maker.schedule(200) for _ in texts], 2000)
                    if all(word == "ends" for _, word in other.history()):
                        sure += 1
                        self.assertTrue(is_alike(all_of(other), all_of(made)), texts)
        self.assertGreater(sure, 100)

    def test_wrong(self):
        for texts, index in [(None, 0), ("say", 0), ({}, 0), (["a", "a | | b"], 1), ([1], 0), (["a", "b", None], 2), ([["a"]], 0)]:
            self.assertEqual(raised(BadTexts, replayed, {}, ONE, texts, None, None).index, index)
            self.assertEqual(raised(BadTexts, first_loose, {}, ONE, texts, None).index, index)
        for schedules, index in [(None, 0), ("01", 0), ({}, 0), ([[], [-1]], 1), ([[], None], 1), ([[]], 1), ([], 0), ([[], [], []], 3), ([[], [], "0"], 2), ([[True], []], 0), ([None], 0)]:
            self.assertEqual(raised(BadSchedules, replayed, {}, ONE, ["a", "b"], schedules, None).index, index, schedules)
        for many in [None, -1, True, "9", []]:
            self.assertIs(raised(BadMany, replayed, {}, ONE, ["a"], [[]], many).many, many)
            self.assertIs(raised(BadMany, first_loose, {}, ONE, ["a"], many).many, many)


if __name__ == "__main__":
    unittest.main()
