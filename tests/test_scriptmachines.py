"""Promise [10.8]."""

import unittest

from everypipe.errors import BadHolders, BadRooms, BadScript, BadSignals, BadTree
from everypipe.filetrees import is_tree
from everypipe.machines import Machine
from everypipe.refusals import BadArguments, BadLines
from everypipe.scriptmachines import script_machine
from everypipe.shellreading import read_script
from everypipe.shells import shell_actor
from everypipe.shelltrees import is_script
from helper import any_objects, is_alike

CAT = read_script("cat; say $1")
LEADS = {0: ("lines", ["l"]), 1: ("file", "out", "add"), 2: ("file", "err", "add")}


class ScriptMachines(unittest.TestCase):
    def test_machine(self):
        machine = script_machine(CAT, {"out": ["o"]}, ["a"], ["l"], {(): 1})
        self.assertTrue(machine == Machine({"out": ["o"]}, [(shell_actor(CAT, ["a"]), LEADS)], {(): 1}))
        self.assertTrue(is_alike(machine.files(), {"err": [], "out": ["o"]}))
        self.assertTrue(is_alike(machine.table((0,)), {0: ("lines", (-1, 0)), 1: ("file", "out", "add", (-1, 1)),
                                                      2: ("file", "err", "add", (-1, 2))}))
        machine.run([], 50)
        self.assertEqual((machine.files(), machine.status((0,))), ({"err": [], "out": ["o", "l", "a"]}, 0))

    def test_signals(self):
        signals = [((0,), 1, "term")]
        machine = script_machine(script=CAT, tree={}, arguments=(), lines=(), rooms={(): 2}, signals=signals)
        self.assertTrue(machine == Machine({}, [(shell_actor(CAT, []), {**LEADS, 0: ("lines", [])})], {(): 2}, signals))
        signals.clear()
        machine.run([], 50)
        self.assertEqual(machine.status((0,)), 143)

    def test_what_is_passed_stays(self):
        tree, arguments, lines, rooms = {"f": []}, ["a"], ["l"], {(): 1}
        machine = script_machine(CAT, tree, arguments, lines, rooms)
        machine.run([], 50)
        self.assertEqual((tree, arguments, lines, rooms), ({"f": []}, ["a"], ["l"], {(): 1}))

    def test_wrong(self):
        for thing in any_objects():
            if not is_script(thing):
                with self.assertRaises(BadScript) as caught:
                    script_machine(thing, None, None, None, None, None)
                self.assertIs(caught.exception.script, thing)
            if not is_tree(thing):
                with self.assertRaises(BadTree) as caught:
                    script_machine([], thing, None, None, None, None)
                self.assertIs(caught.exception.tree, thing)
        for tree in [{"out": {}}, {"err": {"a": []}}]:
            with self.assertRaises(BadHolders) as caught:
                script_machine([], tree, None, None, None, None)
            self.assertEqual(caught.exception.index, 0)
        for arguments, index in [(None, 0), ("a", 0), (["a", 1], 1), (["%"], 0)]:
            with self.assertRaises(BadArguments) as caught:
                script_machine([], {}, arguments, None, None, None)
            self.assertEqual(caught.exception.index, index)
        for lines, index in [(None, 0), ("a", 0), ({}, 0), (["a", "b\n"], 1), (["a", "", "x" * 61, None], 2)]:
            with self.assertRaises(BadLines) as caught:
                script_machine([], {}, [], lines, None, None)
            self.assertEqual(caught.exception.index, index)
        for rooms in [None, {}, {(): 0}]:
            with self.assertRaises(BadRooms) as caught:
                script_machine([], {}, [], [], rooms, None)
            self.assertIs(caught.exception.rooms, rooms)
        with self.assertRaises(BadSignals) as caught:
            script_machine([], {}, [], [], {(): 1}, [((0,), 1, "int"), ((0,), 0, "int")])
        self.assertEqual(caught.exception.index, 1)


if __name__ == "__main__":
    unittest.main()
