"""Promises [1.1] to [1.3] and [2.1] to [2.4], over the whole program."""

import copy
import unittest

from everypipe.actors import actor_of
from everypipe.errors import BadMany, PipeError
from everypipe.filetrees import is_line, is_path, is_tree
from everypipe.givens import program_of
from everypipe.globs import is_glob
from everypipe.looking import looked_at
from everypipe.machines import Machine
from everypipe.onerun import is_paper, script_word
from everypipe.outcomes import outcome_of
from everypipe.patternpairs import is_alike_paper
from everypipe.patterns import is_pattern
from everypipe.plans import is_plan
from everypipe.programs import Program
from everypipe.refusals import NotWhole
from everypipe.replays import is_done_by
from everypipe.rings import is_ring
from everypipe.rowchains import is_row_chain
from everypipe.rows import is_row
from everypipe.rowtexts import row_fault
from everypipe.scriptmachines import script_machine
from everypipe.sessions import Session
from everypipe.shellreading import completed, read_script, script_fault
from everypipe.shells import shell_actor
from everypipe.shelltrees import is_script
from everypipe.signs import is_signals
from everypipe.simplewords import is_simple
from everypipe.tasks import Tasks
from everypipe.twos import is_two
from everypipe.words import is_word
from helper import any_objects, is_alike
from made_machines import MachineMaker, own_parts, telling

ONE = {(): 1}


def within(thing, deep):
    """A thing within lists, tuples and dicts, so many deep."""
    for at in range(deep):
        thing = [[thing], (thing,), {"a": thing}, (thing, 1), [0, thing]][at % 5]
    return thing


def machine():
    return Machine({}, [(telling([("put", 1, "a")]), {1: ("pipe", (0,), "put"), 0: ("pipe", (0,), "take")})], ONE)


def objects():
    """Objects of all kinds, with those of this package, one within another to fifty deep."""
    own = [machine(), Session({}, ONE), Program([]), Tasks([]), PipeError(), BadMany(1), NotWhole(None), actor_of(program_of(("cat",))), shell_actor([], []), Machine, len, telling([])]
    return any_objects() + own + [within(thing, deep) for thing in own + [1, True, "a", None, ("none",), ("cat",)] for deep in (1, 2, 3, 7, 50)]


CHECKS = [
    is_script, is_line, is_tree, is_path, is_pattern, is_glob, is_simple, is_signals, is_row,
    lambda thing: is_plan(Tasks([]), None, thing), lambda thing: is_alike_paper(("any",), ("any",), thing), lambda thing: is_ring(machine(), thing),
    lambda thing: is_two(machine(), thing, 9), lambda thing: is_paper(machine(), thing, 9), lambda thing: is_word(({}, {}), [], {}, thing),
    lambda thing: is_row_chain([("cat",)], [("cat",)], thing), lambda thing: is_done_by(machine(), thing),
]


class AnyObject(unittest.TestCase):
    def test_checks_tell_true_or_false(self):
        for check in CHECKS:
            for thing in objects():
                self.assertIn(check(thing), (True, False))
                self.assertIsInstance(check(thing), bool)

    def test_faults_of_no_strings(self):
        for thing in objects():
            if not isinstance(thing, str):
                self.assertEqual((script_fault(thing), row_fault(thing), completed(thing)), ((0, 0), (0, 0), None))

    def test_objects_equal_none_of_another_class(self):
        own = [machine(), Session({}, ONE), Program([]), Tasks([])]
        for one in own:
            for thing in objects():
                if type(thing) is not type(one):
                    self.assertFalse(one == thing)
                    self.assertFalse(thing == one)


class Changes(unittest.TestCase):
    def test_nothing_passed_is_changed(self):
        """Of what is told of a machine nothing hangs on it, and it stays as it was."""
        maker = MachineMaker(211)
        for _ in range(60):
            made = maker.any()
            before = copy.deepcopy(made[0]), made[2].copy(), list(made[3]), [dict(table) for _, table in made[1]]
            one, twin = Machine(*made), Machine(*made)
            for _ in range(2):
                looked_at(one, 60), is_two(one, ([], [1]), 60), is_done_by(one, []), is_ring(one, [(0,)]), is_paper(one, (("one",), []), 60)
                self.assertTrue(one == twin)
            one.run(maker.schedule(), 40)
            self.assertEqual((made[0], made[2], list(made[3]), [dict(table) for _, table in made[1]]), before)

    def test_equal_arguments_get_equal_answers(self):
        maker = MachineMaker(212)
        for _ in range(60):
            made = maker.any()
            self.assertTrue(is_alike(looked_at(Machine(*made), 60), looked_at(Machine(*made), 60)))


class OneRun(unittest.TestCase):
    def test_all_that_is_seen_is_the_same(self):
        """Of a script that is one: lines, files, asked statuses, the end, by every drawn schedule."""
        maker = MachineMaker(213)
        seen = 0
        for _ in range(150):
            text, lines, rooms = maker.script_text(), maker.pick([[], ["l", "m"]]), {(): maker.pick([1, 2])}
            make = lambda: script_machine(read_script(text), {"f": ["x"]}, [], lines, rooms)
            if script_word(read_script(text), {"f": ["x"]}, [], lines, rooms, 300) != ("one",):
                continue
            told = []
            for _ in range(3):
                here = make()
                here.run(maker.schedule(120), 3000)
                if here.is_whole():
                    own = own_parts(here.deeds())
                    asked = {name: [deed[2:] for deed in row if deed[1] == "ask"] for name, row in own.items()}
                    shell = [deed for deed in own[(0,)] if deed[1] not in ("put", "broken")]
                    told.append((outcome_of(here)[:3], {name: asks for name, asks in asked.items() if asks}, shell))
            self.assertTrue(all(one == told[0] for one in told), text)
            seen += len(told)
        self.assertGreater(seen, 150)


if __name__ == "__main__":
    unittest.main()
