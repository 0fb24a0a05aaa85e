"""Promises [16.1] and [16.4]."""

import unittest

from everypipe.errors import BadHolders, BadMany, BadRooms, BadScript, BadTree
from everypipe.filelists import unlike_at
from everypipe.machines import Machine
from everypipe.outcomes import outcome_of, script_outcome, unlike_outcomes
from everypipe.plain import plain_meaning
from everypipe.refusals import BadArguments, BadLines, BadMachine, BadOutcome, BadSchedule, NotWhole
from everypipe.scriptmachines import script_machine
from everypipe.shellreading import read_script
from everypipe.shelltrees import is_script
from helper import Maker, any_objects, changed, is_alike, is_new
from made_machines import MachineMaker, raised, telling

P, Q = (0,), (1,)
ONE = {(): 1}
TAKE = {0: ("pipe", (0,), "take"), 1: ("pipe", (0,), "put")}


def outcome(text, lines=(), rooms=None, schedule=(), many=500, tree=None, arguments=()):
    return script_outcome(read_script(text), tree or {}, list(arguments), list(lines), rooms or ONE, schedule, many)


class Outcomes(unittest.TestCase):
    def test_ends(self):
        machine = Machine({"f": ["u"], "d": {}}, [(telling([("take", 0), ("put", 1, "a")], ("over", 7)), {0: ("lines", ["l", "m"]), 1: ("file", "f", "add")})], ONE)
        self.assertIs(raised(NotWhole, outcome_of, machine).machine, machine)
        machine.run([], 99)
        told = outcome_of(machine=machine)
        self.assertTrue(is_alike(told, ("ends", 7, {"d": {}, "f": ["u", "a"]}, 1)))
        self.assertTrue(is_new(told, outcome_of(machine), machine.files()))
        told[2]["f"].append("x")
        self.assertEqual(machine.files()["f"], ["u", "a"])

    def test_stands(self):
        rows = [(telling([("take", 0)]), {0: ("new", 0, "take"), 1: ("new", 0, "put")})]
        machine = Machine({}, [(telling([("start", rows, {}), ("wait", 0)]), {}), (telling([], ("over", 3)), {}), (telling([("take", 0)]), TAKE)], ONE)
        machine.run([], 99)
        self.assertTrue(is_alike(outcome_of(machine), ("stands", [P, (0, 0), (2,)], {}, 0)))
        other = Machine({}, [(telling([], ("over", 3)), {}), (telling([("take", 0)]), TAKE)], ONE)
        other.run([], 99)
        self.assertTrue(is_alike(outcome_of(other), ("stands", [Q], {}, 0)))

    def test_lines_of_the_first_handle_alone(self):
        takes = telling([("take", 0)] * 4)
        for table, told in [({0: ("lines", ["a", "b"])}, 2), ({0: ("lines", list("abcdef"))}, 4), ({0: ("lines", [])}, 0), ({5: ("lines", ["x"]), 0: ("lines", ["a", "b"])}, 2),
                            ({0: ("file", "f", "read")}, 0), ({0: ("file", "f", "read"), 1: ("lines", ["a"])}, 0), ({}, 0)]:
            machine = Machine({"f": ["u"]}, [(takes, table)], ONE)
            machine.run([], 99)
            self.assertEqual(outcome_of(machine)[3], told, table)
        # The handle (-1, 0) is the first that is opened, whoever reads of it.
        machine = Machine({}, [(telling([("take", 3)]), {0: ("lines", ["a"]), 3: ("lines", ["b"])}), (takes, {0: ("lines", ["c", "d"])})], ONE)
        machine.run([], 99)
        self.assertEqual(outcome_of(machine)[3], 0)

    def test_of_many(self):
        maker = MachineMaker(101)
        for _ in range(150):
            machine = maker.machine()
            machine.run(maker.schedule(), 60)
            if not machine.is_whole():
                self.assertIs(raised(NotWhole, outcome_of, machine).machine, machine)
                continue
            reads = sum(deed[1:3] == ("read", (None, (-1, 0))) for deed in machine.deeds())
            left = machine.left()
            self.assertTrue(is_alike(outcome_of(machine), ("stands" if left else "ends", left or machine.status(P), machine.files(), reads)))

    def test_wrong(self):
        for thing in any_objects():
            self.assertIs(raised(BadMachine, outcome_of, thing).machine, thing)


class ScriptOutcomes(unittest.TestCase):
    def test_scripts(self):
        for text, lines, told in [
            ("", [], ("ends", 0, {"err": [], "out": []}, 0)), ("cat; exit 3", ["l", "m"], ("ends", 3, {"err": [], "out": ["l", "m"]}, 2)),
            ("read x; say $x >&2", ["l", "m"], ("ends", 0, {"err": ["l"], "out": []}, 1)), ("seq 1 9 | grep 3 | head 1 > f", [], ("ends", 0, {"err": [], "f": ["3"], "out": []}, 0)),
            ("yes a | head 2", [], ("ends", 0, {"err": [], "out": ["a", "a"]}, 0)),
        ]:
            self.assertTrue(is_alike(outcome(text, lines), told), text)
        told = script_outcome(script=read_script("say $1 > f"), tree={}, arguments=("p",), lines=(), rooms={(): 2}, schedule=(3, 1), many=99)
        self.assertTrue(is_alike(told, ("ends", 0, {"err": [], "f": ["p"], "out": []}, 0)))

    def test_schedules(self):
        text, tree = "say a >> f & say b >> f; wait", {"f": []}
        left = {tuple(outcome(text, tree=tree, schedule=schedule)[2]["f"]) for schedule in ([], [0] * 9, [1] * 9, [0, 1] * 9, [1, 0] * 9)}
        self.assertEqual(left, {("a", "b"), ("b", "a")})

    def test_many(self):
        machine = script_machine(read_script("cat"), {}, [], ["l"], ONE)
        many = len(machine.run([], 99))
        self.assertEqual(outcome("cat", ["l"], many=many)[0], "ends")
        for less in range(many):
            self.assertTrue(is_alike(outcome("cat", ["l"], many=less), ("many",)))
        self.assertEqual(outcome("while true; do true; end", many=300), ("many",))

    def test_as_machines(self):
        maker = MachineMaker(102)
        for _ in range(150):
            text, schedule = maker.script_text(), maker.schedule()
            machine = script_machine(read_script(text), {"f": ["x"]}, [], ["l"], ONE)
            machine.run(schedule, 400)
            told = outcome_of(machine) if machine.is_whole() else ("many",)
            self.assertTrue(is_alike(outcome(text, ["l"], schedule=schedule, many=400, tree={"f": ["x"]}), told))

    def test_wrong(self):
        for thing in any_objects():
            if not is_script(thing):
                self.assertIs(raised(BadScript, script_outcome, thing, None, None, None, None, None, None).script, thing)
        self.assertEqual(raised(BadTree, script_outcome, [], 5, None, None, None, None, None).tree, 5)
        self.assertEqual(raised(BadHolders, script_outcome, [], {"out": {}}, None, None, None, None, None).index, 0)
        self.assertEqual(raised(BadArguments, script_outcome, [], {}, ["a", 1], None, None, None, None).index, 1)
        self.assertEqual(raised(BadLines, script_outcome, [], {}, [], ["a", "", 1], None, None, None).index, 2)
        self.assertEqual(raised(BadRooms, script_outcome, [], {}, [], [], {(): 0}, None, None).rooms, {(): 0})
        for schedule, index in [(None, 0), ([0, -1], 1), ([True], 0), ("01", 0)]:
            self.assertEqual(raised(BadSchedule, script_outcome, [], {}, [], [], ONE, schedule, None).index, index)
        for many in [None, -1, True, "9", []]:
            self.assertIs(raised(BadMany, script_outcome, [], {}, [], [], ONE, [], many).many, many)

    def test_what_is_passed_stays(self):
        script, tree, lines, rooms, schedule = read_script("cat >> f; say $1"), {"f": ["u"]}, ["l"], {(): 1}, [3, 2]
        script_outcome(script, tree, ["a"], lines, rooms, schedule, 99)
        self.assertEqual((script, tree, lines, rooms, schedule), (read_script("cat >> f; say $1"), {"f": ["u"]}, ["l"], {(): 1}, [3, 2]))


class Unlike(unittest.TestCase):
    def test_first_that_is_so(self):
        ends = ("ends", 0, {"f": ["u"], "d": {"g": []}}, 2)
        for other, told in [
            (ends, None), (("ends", 1, {}, 0), ("status",)), (("ends", 0, {}, 0), ("lines",)), (("ends", 0, {}, 2), ("file", "d")), (("stands", [P], {}, 2), ("word",)),
            (("many",), ("word",)), (("long",), ("word",)), (("none",), ("word",)), (("ends", 0, {"f": ["u"], "d": {"g": ["x"]}}, 2), ("file", "d/g")),
            (("ends", 0, {"f": [], "d": {"g": []}}, 2), ("file", "f")),
        ]:
            self.assertTrue(is_alike(unlike_outcomes(ends, other), told), other)
            self.assertTrue(is_alike(unlike_outcomes(one=changed(other), other=ends), told))
        stands = ("stands", [P, (0, 1)], {"f": []}, 2)
        for other, told in [(stands, None), (("stands", [P], {}, 0), ("left",)), (("stands", [P, (0, 1)], {}, 0), ("lines",)), (("stands", [P, (0, 1)], {}, 2), ("file", "f")),
                            (["stands", ([0], [0, 1]), {"f": ()}, 2], None)]:
            self.assertTrue(is_alike(unlike_outcomes(stands, other), told), other)
        for one in [("many",), ("long",), ("none",)]:
            for other in [("many",), ("long",), ("none",)]:
                self.assertEqual(unlike_outcomes(one, other), None if one == other else ("word",))

    def test_trees(self):
        maker = Maker(103)
        for _ in range(150):
            one, other = maker.tree(), maker.tree()
            path = unlike_at(one, other)
            self.assertEqual(unlike_outcomes(("ends", 0, one, 0), ("ends", 0, other, 0)), None if path is None else ("file", path))

    def test_no_outcomes(self):
        right = ("ends", 0, {}, 0)
        for thing in any_objects() + [("many", 1), ("ends",), ("ends", 0, {}), ("ends", 256, {}, 0), ("ends", -1, {}, 0), ("ends", True, {}, 0), ("ends", 0, {"A": []}, 0),
                                      ("ends", 0, [], 0), ("ends", 0, {}, -1), ("ends", 0, {}, True), ("ends", 0, {}, 0, 0), ("ends", [P], {}, 0), ("stands", 0, {}, 0),
                                      ("stands", [], {}, 0), ("stands", [()], {}, 0), ("stands", [Q, P], {}, 0), ("stands", [P, P], {}, 0), ("stands", [0], {}, 0),
                                      ("stands", [(True,)], {}, 0), ("others", 0, {}, 0), "many", {"many": 1}]:
            if thing in (("none",),):
                continue
            self.assertIs(raised(BadOutcome, unlike_outcomes, thing, None).outcome, thing)
            self.assertIs(raised(BadOutcome, unlike_outcomes, right, thing).outcome, thing)
        self.assertIsNone(unlike_outcomes(plain_meaning([], {}, [], [], 9), script_outcome([], {}, [], [], ONE, [], 9)))


if __name__ == "__main__":
    unittest.main()
