"""Promises [16.2], [16.3], [16.5], [16.6], the example [16.7], and what [8.7], [10.10], [12.4] promise of scripts."""

import unittest

from everypipe.errors import BadHolders, BadMany, BadRooms, BadScript, BadTree
from everypipe.lateness import is_late, late_run
from everypipe.looking import looked_at
from everypipe.machines import Machine
from everypipe.onerun import is_paper, paper_of, script_parting, script_word
from everypipe.outcomes import outcome_of, script_outcome, unlike_outcomes
from everypipe.plain import plain_meaning
from everypipe.refusals import BadArguments, BadLines, BadMachine, BadOther
from everypipe.scriptmachines import script_machine
from everypipe.shellreading import read_script, script_fault
from everypipe.shelltrees import is_script
from everypipe.twos import is_two
from everypipe.words import word_of
from helper import any_objects, changed, is_alike, is_new
from made_machines import MachineMaker, raised, telling
from test_second_shell import ScriptMaker

P, Q = (0,), (1,)
ONE = {(): 1}


def word(text, tree=None, lines=(), rooms=None, many=500, arguments=()):
    return script_word(read_script(text), tree or {}, list(arguments), list(lines), rooms or ONE, many)


class Words(unittest.TestCase):
    def test_example(self):
        script = read_script("seq 1 9 | grep 3 | head 1 > f")
        for rooms in ({(): 1}, {(): 2}, {(): 8}, {(): 1, (0, 0): 5}, {(): 7, (0, 1): 1}):
            self.assertTrue(is_alike(script_word(script, {}, [], [], rooms, 500), ("one",)))
            self.assertTrue(is_alike(script_outcome(script, {}, [], [], rooms, [], 500), ("ends", 0, {"err": [], "f": ["3"], "out": []}, 0)))
        self.assertEqual(word("say a >> f & say b >> f; wait", {"f": []})[0], "pair")
        self.assertEqual(word("yes a | head 2"), ("one",))
        self.assertEqual(script_outcome(read_script("yes a | head 2"), {}, [], [], ONE, [], 500)[2]["out"], ["a", "a"])

    def test_as_looked_at(self):
        maker = MachineMaker(111)
        for _ in range(120):
            text, lines, rooms = maker.script_text(), maker.pick([[], ["l", "m"]]), {(): maker.pick([1, 2])}
            machine = script_machine(read_script(text), {"f": ["x"]}, [], lines, rooms)
            told = looked_at(machine, 300)
            self.assertTrue(is_alike(word(text, {"f": ["x"]}, lines, rooms, 300), told if told == ("many",) else told[0]))

    def test_many(self):
        many = len(late_run(script_machine(read_script("yes a | head 2"), {}, [], [], ONE), 500))
        self.assertEqual(word("yes a | head 2", many=many), ("one",))
        self.assertTrue(is_alike(word("yes a | head 2", many=many - 1), ("many",)))

    def test_signals_of_the_shell(self):
        # The sending and a deed of the receiver touch one thing; a child that has to be over first has no sign.
        self.assertEqual(word("cat & kill term 1; wait")[0], "signal")
        self.assertEqual(word("true & wait; kill term 1"), ("one",))

    def test_wrong(self):
        functions = [lambda script, *rest: script_word(script, *rest), lambda script, *rest: script_parting(script, [], *rest)]
        for function in functions:
            for thing in any_objects():
                if not is_script(thing):
                    self.assertIs(raised(BadScript, function, thing, None, None, None, None, None).script, thing)
            self.assertEqual(raised(BadTree, function, [], 5, None, None, None, None).tree, 5)
            self.assertEqual(raised(BadHolders, function, [], {"err": {}}, None, None, None, None).index, 0)
            self.assertEqual(raised(BadArguments, function, [], {}, ["a", 1], None, None, None).index, 1)
            self.assertEqual(raised(BadLines, function, [], {}, [], ["a", "", 1], None, None).index, 2)
            self.assertEqual(raised(BadRooms, function, [], {}, [], [], {}, None).rooms, {})
            for many in [None, -1, True, "9", []]:
                self.assertIs(raised(BadMany, function, [], {}, [], [], ONE, many).many, many)
        for thing in any_objects():
            if not is_script(thing):
                self.assertIs(raised(BadOther, script_parting, [], thing, None, None, None, None, None).other, thing)


class OneRunTellsAll(unittest.TestCase):
    def check(self, maker, text):
        """What is one leaves the same by drawn schedules, and the plain meaning."""
        script, tree = read_script(text), {"f": ["x"], "d": {"e": ["y"]}}
        lines, arguments, rooms = maker.pick([[], ["l", "m n", ""]]), maker.pick([[], ["p q", "r"]]), {(): maker.pick([1, 1, 2, 8])}
        if script_word(script, tree, arguments, lines, rooms, 400) != ("one",):
            return 0
        first = None
        for _ in range(3):
            schedule = [maker.random.randrange(6) for _ in range(maker.pick([0, 20, 300]))]
            told = script_outcome(script, tree, arguments, lines, rooms, schedule, 2000)
            if told != ("many",):
                first = first or told
                self.assertIn(unlike_outcomes(first, told), (None, ("lines",)), text)
        plain = plain_meaning(script, tree, arguments, lines, 5000)
        if first is not None and plain[0] == "ends" and first[0] == "ends":
            self.assertIn(unlike_outcomes(plain, first), (None, ("lines",)), text)
            return 1
        return 0

    def test_rows_and_children(self):
        maker = MachineMaker(112)
        self.assertGreater(sum(self.check(maker, maker.script_text()) for _ in range(300)), 100)

    def test_all_commands(self):
        maker = ScriptMaker(113)
        texts = [maker.list(2) for _ in range(250)]
        self.assertGreater(sum(self.check(maker, text) for text in texts if script_fault(text) is None), 80)

    def test_children_change_nothing_of_their_starter(self):
        for text in ["( x=2; shift; def f { say g; }; exit 3 > h ); say $x $#; f", "x=$(x=2; say $x) y=1; { x=3; shift; } | { x=4; cat; }; say $x $#", "{ x=2; say $x; shift; } > f & wait; say $x $#"]:
            told = script_outcome(read_script("x=1; " + text), {}, ["p", "q"], [], ONE, [], 600)
            self.assertEqual(told[2]["out"][-1], ("2 2" if "$(" in text else "1 2"), text)

    def test_children_of_a_shell_without_jobs_are_over(self):
        maker = MachineMaker(114)
        part = lambda: maker.pick([maker.script_row(), "( " + maker.script_row() + "; exit 3 )", "x=$(" + maker.script_row() + ")", "say $?", "cat < f", "exit 2", "trap 'say t' exit"])
        for _ in range(150):
            text = "; ".join(maker.some(part, 1, 3))
            machine = script_machine(read_script(text), {"f": ["u"]}, [], ["l"], ONE)
            machine.run(maker.pick([[], [1, 0, 2] * 60]), 600)
            for name in machine.processes():
                if machine.status(name) is not None:
                    self.assertTrue(all(machine.status(other) is not None for other in machine.processes() if other[:-1] == name), text)

    def test_kill_reaches_one_child(self):
        text = "{ cat <: a | { while is a; do is a <:b; end; }; } & kill kill 1; wait 1; say $?"
        machine = script_machine(read_script(text), {}, [], [], ONE)
        machine.run([], 300)
        sent = [deed for deed in machine.deeds() if deed[1] == "signal"]
        self.assertEqual(sent, [(P, "signal", (0, 0), "kill")])
        self.assertEqual((machine.status((0, 0)), machine.files()["out"]), (137, ["137"]))
        self.assertTrue(all(deed[3] != 137 for deed in machine.deeds() if deed[1] == "over" and deed[0][:2] == (0, 0) and len(deed[0]) > 2))
        self.assertEqual(script_outcome(read_script("kill int 1; say $?; true & kill int 2; say $?"), {}, [], [], ONE, [], 99)[2]["out"], ["1", "1"])


class Papers(unittest.TestCase):
    def machine(self):
        return Machine({"f": []}, [(telling([("put", 1, "a"), ("put", 1, "b"), ("put", 3, "x")]), {1: ("pipe", (0,), "put"), 3: ("file", "f", "add")}),
                                   (telling([("take", 0)]), {0: ("pipe", (0,), "take")})], ONE)

    def test_paper(self):
        machine = self.machine()
        twin = machine.copy()
        told = paper_of(machine=machine, many=99)
        self.assertTrue(is_alike(told, (("touch", P, 3), late_run(machine, 99))))
        self.assertTrue(is_new(told, paper_of(machine, 99)))
        many = len(told[1])
        for thing in (told, changed(told), [told[0], tuple(told[1])]):
            self.assertIs(is_paper(machine=machine, thing=thing, many=many), True)
            self.assertIs(is_paper(machine, thing, many - 1), False)
        self.assertEqual(paper_of(machine, many), told)
        self.assertIsNone(paper_of(machine, many - 1))
        self.assertTrue(machine == twin)

    def test_one_thing_otherwise(self):
        machine = self.machine()
        word_told, row = paper_of(machine, 99)
        for other in [("one",), ("touch", P, 4), ("touch", Q, 3), ("touch", P), ("touch", P, 3, 1), "touch", None, ("touch", P, True), ("open", P)]:
            self.assertIs(is_paper(machine, (other, row), 99), False)
        for at in range(len(row)):
            self.assertIs(is_paper(machine, (word_told, row[:at] + row[at + 1:]), 99), False)
            self.assertIs(is_paper(machine, (word_told, row[:at] + row[at:at + 1] + row[at:]), 99), False)
            for deed in [None, 1, (), (P, "find", "f", "file"), row[at][:3], (*row[at], 1), ((9,), *row[at][1:]), (*row[at][:3], 5)]:
                self.assertIs(is_paper(machine, (word_told, row[:at] + [deed] + row[at + 1:]), 99), False)
        self.assertIs(is_paper(machine, (word_told, row + [(P, "over", None, 0)]), 99), False)
        for thing in any_objects() + [(word_told,), (word_told, row, 1), (word_told, None), (row, word_told), row]:
            self.assertIs(is_paper(machine, thing, 99), False)

    def test_rows_that_are_not_late(self):
        machine = Machine({"f": []}, [(telling([("put", 1, "a"), ("put", 3, "x")]), {1: ("pipe", (0,), "put"), 3: ("file", "f", "add")}),
                                      (telling([("take", 0)]), {0: ("pipe", (0,), "take")})], ONE)
        for schedule, told in [([0, 1, 1, 0, 0], False), ([0, 1, 0, 0, 0], True), ([0, 0, 1, 0, 0], True)]:
            copy = machine.copy()
            row = copy.run(schedule, 99)
            self.assertTrue(copy.is_whole())
            self.assertIs(is_late(copy.shape(), row), told)
            self.assertEqual(word_of(copy.shape(), row, {}), ("one",))
            self.assertIs(is_paper(machine, (("one",), row), 99), told)

    def test_every_late_row_with_its_word(self):
        maker = MachineMaker(115)
        seen = set()
        for _ in range(250):
            machine = maker.machine()
            copy = machine.copy()
            row = copy.run(maker.schedule(), 60)
            if not copy.is_whole():
                self.assertIs(is_paper(machine, (("one",), row), 99), False)
                continue
            told = word_of(copy.shape(), row, {name: copy.waiting(name) for name in copy.left()})
            late = is_late(copy.shape(), row)
            self.assertIs(is_paper(machine, (told, row), 60), late)
            looked = looked_at(machine, 60)
            paper = paper_of(machine, 60)
            if looked == ("many",) or looked[0][0] == "open":
                self.assertIsNone(paper)
            else:
                self.assertTrue(is_alike(paper, (looked[0], looked[2])))
                self.assertTrue(is_paper(machine, paper, 60))
            seen.add(late)
        self.assertEqual(len(seen), 2)

    def test_papers_of_one(self):
        maker = MachineMaker(116)
        for _ in range(120):
            machine = maker.machine()
            paper = paper_of(machine, 60)
            if paper is not None and paper[0] == ("one",):
                for _ in range(4):
                    self.assertFalse(is_two(machine, (maker.schedule(), maker.schedule()), 80))

    def test_open_ones(self):
        found = 0
        for maker in (MachineMaker(100), MachineMaker(117)):
            for _ in range(500):
                machine = Machine(*maker.net())
                told = looked_at(machine, 60)
                if told[0][0] == "open":
                    found += 1
                    self.assertIsNone(paper_of(machine, 60))
                    self.assertTrue(is_paper(machine, (told[0], told[2]), 60))
        self.assertGreater(found, 0)

    def test_wrong(self):
        done = self.machine()
        done.step(P)
        for function in (paper_of, lambda machine, many: is_paper(machine, None, many)):
            for thing in any_objects() + [done]:
                self.assertIs(raised(BadMachine, function, thing, None).machine, thing)
            for thing in [None, -1, True, "9", []]:
                self.assertIs(raised(BadMany, function, self.machine(), thing).many, thing)


class Parting(unittest.TestCase):
    def parting(self, one, other, tree=None, lines=(), many=500):
        return script_parting(read_script(one), read_script(other), tree or {}, [], list(lines), ONE, many)

    def test_partings(self):
        for one, other, told in [
            ("say a", "say a", None), ("say a | cat", "say a", None), ("seq 1 9 | grep 3 | head 1 > f", "say 3 > f", None), ("exit 3", "exit 4", ("status",)),
            ("read x", "true", ("lines",)), ("say a > f", "say b > f", ("file", "f")), ("say a > f", "say a > g", ("file", "f")), ("exit 3 > f", "true", ("status",)),
            ("say a", "say a >> f & say b >> f; wait", ("word", 1)), ("say a >> f & say b >> f; wait", "yes a", ("word", 0)), ("yes a", "say a", ("word", 0, ("many",))),
            ("say a", "yes a | cat", ("word", 1, ("many",))),
        ]:
            found = self.parting(one, other, {"f": []}, ["l"])
            if told is not None and told[0] == "word" and len(told) == 2:
                self.assertEqual(found[:2], told)
                self.assertEqual(found[2], word((one, other)[told[1]], {"f": []}, ["l"]))
            else:
                self.assertTrue(is_alike(found, told), (one, other, found))
        self.assertIsNone(script_parting(script=[], other=(), tree={}, arguments=(), lines=(), rooms=ONE, many=9))

    def test_as_outcomes(self):
        maker = MachineMaker(118)
        for _ in range(80):
            texts = [maker.script_text() for _ in range(2)]
            scripts = [read_script(text) for text in texts]
            words = [script_word(script, {"f": ["x"]}, [], ["l"], ONE, 300) for script in scripts]
            told = script_parting(*scripts, {"f": ["x"]}, [], ["l"], ONE, 300)
            wrong = [which for which in (0, 1) if words[which] != ("one",)]
            if wrong:
                self.assertTrue(is_alike(told, ("word", wrong[0], words[wrong[0]])))
            else:
                machines = [script_machine(script, {"f": ["x"]}, [], ["l"], ONE) for script in scripts]
                for machine in machines:
                    for deed in looked_at(machine, 300)[2]:
                        machine.step(deed[0])
                self.assertTrue(is_alike(told, unlike_outcomes(*[outcome_of(machine) for machine in machines])))


if __name__ == "__main__":
    unittest.main()
