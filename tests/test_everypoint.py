"""Promises [12.5], [12.6], and the example [12.7]."""

import unittest

from everypipe.actors import actor_of
from everypipe.errors import BadHolders, BadRooms, BadTree
from everypipe.everypoint import first_other, first_torn, left_at, points_of, torn_files
from everypipe.filelists import files_of
from everypipe.filetrees import is_tree
from everypipe.givens import program_of
from everypipe.machines import Machine
from everypipe.refusals import BadAllowed, BadProcess, BadSign
from everypipe.shellreading import read_script
from everypipe.shells import shell_actor
from everypipe.signs import leaving_out, sign_status
from helper import any_objects, changed, is_alike, is_new
from test_machines import RandomMaker

ONE = {(): 1}


def writer(answers):
    for answer in answers:
        if isinstance(answer, tuple):
            return ("over", sign_status(answer[1]))
    return [("open", 1, "f", "cut"), ("put", 1, "a"), ("put", 1, "b"), ("over", 0)][len(answers)]


def shell(text, **leads):
    return [(shell_actor(read_script(text), []), {0: ("lines", ["l", "m"]), 1: ("file", "out", "add"), 2: ("file", "err", "add")})]


class Example(unittest.TestCase):
    def test_signs(self):
        self.assertEqual([sign_status(sign) for sign in ("int", "kill", "term")], [130, 137, 143])

    def test_left(self):
        holders = [(writer, {})]
        self.assertEqual(points_of({}, holders, ONE, (0,)), 4)
        left = [({}, [143]), ({"f": []}, [143]), ({"f": ["a"]}, [143]), ({"f": ["a", "b"]}, [143]), ({"f": ["a", "b"]}, [0])]
        self.assertTrue(is_alike(left_at({}, holders, ONE, (0,), "term"), left))
        self.assertTrue(is_alike(torn_files({}, holders, ONE, (0,), "term"), ["f"]))
        self.assertTrue(is_alike(first_torn({}, holders, ONE, (0,), "term"), (1, "f")))
        for sign, status in (("int", 130), ("kill", 137)):
            self.assertEqual([told[1] for told in left_at({}, holders, ONE, (0,), sign)], [[status]] * 4 + [[0]])

    def test_left_out(self):
        holders = [(leaving_out(writer, ["int", "term"]), {})]
        self.assertEqual(torn_files({}, holders, ONE, (0,), "term"), [])
        self.assertIsNone(first_torn({}, holders, ONE, (0,), "term"))
        self.assertEqual(left_at({}, holders, ONE, (0,), "int"), [({"f": ["a", "b"]}, [0])] * 5)
        self.assertEqual(first_torn({}, holders, ONE, (0,), "kill"), (1, "f"))


class Points(unittest.TestCase):
    def test_first_other(self):
        holders = [(writer, {})]
        left = left_at({}, holders, ONE, (0,), "term")
        for many in range(5):
            told = first_other({}, holders, ONE, (0,), "term", left[:many] + [None, "a", len])
            self.assertTrue(is_alike(told, (many, left[many])))
            self.assertTrue(is_new(told, left))
        self.assertIsNone(first_other(tree={}, holders=holders, rooms=ONE, process=[0], sign="term", allowed=tuple(left)))
        self.assertIsNone(first_other({}, holders, ONE, (0,), "term", changed(left[::-1])))
        self.assertEqual(first_other({}, holders, ONE, (0,), "term", [])[0], 0)

    def test_true_is_no_one(self):
        holders = [(lambda answers: ("over", 1), {})]
        self.assertEqual(left_at({}, holders, ONE, (0,), "int"), [({}, [1]), ({}, [1])])
        for thing in [({}, [True]), ({1: 2}, [1]), ({}, 1), ({}, [1], 1), [{}], ({"f": []}, [1]), ({}, ["1"]), ({}, [None]), ({}, [1, 1]), ({}, {1}), 1]:
            self.assertEqual(first_other({}, holders, ONE, (0,), "int", [thing]), (0, ({}, [1])))
        self.assertIsNone(first_other({}, holders, ONE, (0,), "int", [[{}, (1,)]]))
        holders = [(lambda answers: ("over", 0), {0: ("file", "f", "add")})]
        for thing in [({"f": [1]}, [0]), ({"f": "a"}, [0]), ({"f": None}, [0]), ({"f": []}, [False]), ({"g": ["a"]}, [0]), ({"f": {}}, [0])]:
            self.assertEqual(first_other({"f": ["a"]}, holders, ONE, (0,), "int", [thing])[0], 0)
        self.assertIsNone(first_other({"f": ["a"]}, holders, ONE, (0,), "int", [({"f": ("a",)}, [0])]))

    def test_children_begun_in_the_plain_run_alone(self):
        holders = shell("say a | cat > f; say b")
        points = points_of({}, holders, ONE, (0, 1))
        self.assertEqual(points, 6)
        left = left_at({}, holders, ONE, (0, 1), "term")
        self.assertEqual(len(left), points + 1)
        self.assertEqual(left[0], ({"err": [], "out": ["b"]}, [0]))
        self.assertEqual(left[-1], ({"err": [], "f": ["a"], "out": ["b"]}, [0]))
        child = points_of({}, holders, ONE, (0,))
        self.assertEqual([told[1] for told in left_at({}, holders, ONE, (0,), "kill")], [[137]] * child + [[0]])

    def test_traps_at_every_point(self):
        holders = shell("trap 'say t' int; say a; cat; say b > f")
        for files, statuses in left_at({}, holders, ONE, (0,), "int"):
            self.assertEqual(statuses, [0])
            self.assertEqual([line for line in files["f"] if line != "t"], ["b"])
            self.assertEqual([line for line in files["out"] if line != "t"], ["a", "l", "m"])
            self.assertLessEqual((files["f"] + files["out"]).count("t"), 1)
        self.assertEqual(torn_files({"f": ["o"]}, shell("say a > f; say b >> f; say c > g"), ONE, (0,), "int"), ["f", "g"])
        self.assertEqual(torn_files({"f": ["o"]}, shell("say a >> f"), ONE, (0,), "int"), [])

    def test_processes_that_stand_still(self):
        holders = [(lambda answers: ("take", 0), {0: ("pipe", (0,), "take"), 1: ("pipe", (0,), "put")}), (writer, {})]
        self.assertEqual(left_at({}, holders, ONE, (1,), "kill")[-1], ({"f": ["a", "b"]}, [None, 0]))
        self.assertEqual(points_of({}, holders, ONE, (0,)), 0)
        self.assertEqual(left_at({}, holders, ONE, (0,), "kill"), [({"f": ["a", "b"]}, [137, 0])])

    def test_as_machines_with_signals(self):
        maker = RandomMaker(11)
        for _ in range(60):
            holders = maker.some(maker.holder, 1, 3)
            tree, rooms = {"f": ["x"], "d": {}}, {(): maker.pick([1, 2])}
            plain = Machine(tree, holders, rooms)
            start = plain.files()
            plain.run([], 3000)
            process = maker.pick(plain.processes())
            sign = maker.pick(["int", "term", "kill"])
            points = points_of(tree, holders, rooms, process)
            self.assertEqual(points, sum(deed[0] == process for deed in plain.deeds()))
            told, torn = left_at(tree, holders, rooms, process, sign), []
            self.assertEqual(len(told), points + 1)
            for point, left in enumerate(told):
                machine = Machine(tree, holders, rooms, [(process, point, sign)])
                machine.run([], 3000)
                self.assertEqual(left, (machine.files(), [machine.status((at,)) for at in range(len(holders))]))
                before, behind = dict(files_of(start)), dict(files_of(plain.files()))
                torn += [(point, path) for path, lines in files_of(left[0]) if before.get(path) != lines != behind.get(path)]
            if plain.status(process) is not None:
                self.assertEqual(told[-1][0], plain.files())
            self.assertEqual(torn_files(tree, holders, rooms, process, sign), sorted({path for _, path in torn}))
            self.assertEqual(first_torn(tree, holders, rooms, process, sign), min(torn, default=None))
            others = [at for at, left in enumerate(told) if left != told[-1]]
            other = first_other(tree, holders, rooms, process, sign, [told[-1]])
            self.assertEqual(other, (others[0], told[others[0]]) if others else None)

    def test_a_file_that_one_deed_alone_changes(self):
        maker = RandomMaker(12)
        for _ in range(150):
            wishes = [wish for wish in maker.wishes(0) if wish[0] in ("put", "open", "take", "look", "list", "close")]

            def actor(answers):
                signs = [answer for answer in answers if isinstance(answer, tuple)]
                return ("over", 9) if signs or len(answers) >= len(wishes) else wishes[len(answers)]
            holders = [(actor, {0: ("file", "f", "add"), 1: ("file", "g", "cut")})]
            machine = Machine({"d": {}}, holders, ONE)
            machine.run([], 100)
            changes = {}
            for deed in machine.deeds():
                path = (deed[2] + "/" + deed[3]).lstrip("/") if deed[1] == "make" else deed[2]
                if deed[1] in ("make", "write", "cut"):
                    changes[path] = changes.get(path, 0) + 1
            for path in torn_files({"d": {}}, holders, ONE, (0,), maker.pick(["int", "kill"])):
                self.assertGreater(changes[path], 1)


class Wrong(unittest.TestCase):
    def test_wrong(self):
        functions = [points_of, lambda *told: left_at(*told, None), lambda *told: first_other(*told, None, None),
                     lambda *told: torn_files(*told, None), lambda *told: first_torn(*told, None)]
        holders = [(writer, {})]
        for function in functions:
            for thing in any_objects():
                if not is_tree(thing):
                    with self.assertRaises(BadTree) as caught:
                        function(thing, None, None, None)
                    self.assertIs(caught.exception.tree, thing)
            for thing, index in [(None, 0), ([], 0), ([holders[0], None], 1), ([(writer, {0: ("file", "x", "read")})], 0)]:
                with self.assertRaises(BadHolders) as caught:
                    function({}, thing, None, None)
                self.assertEqual(caught.exception.index, index)
            for rooms in [None, {}, {(): 0}]:
                with self.assertRaises(BadRooms) as caught:
                    function({}, holders, rooms, None)
                self.assertIs(caught.exception.rooms, rooms)
            for process in [None, 0, (), (1,), (0, 0), "0", (True,), [False], {}]:
                with self.assertRaises(BadProcess) as caught:
                    function({}, holders, ONE, process)
                self.assertIs(caught.exception.process, process)
        for function in (left_at, torn_files, first_torn, lambda *told: first_other(*told, None)):
            for sign in [None, "hup", "exit", 2, "", ["int"], ("sign", "int")]:
                with self.assertRaises(BadSign) as caught:
                    function({}, holders, ONE, (0,), sign)
                self.assertIs(caught.exception.sign, sign)
        for allowed in [None, 1, "a", {}, True]:
            with self.assertRaises(BadAllowed) as caught:
                first_other({}, holders, ONE, (0,), "int", allowed)
            self.assertIs(caught.exception.allowed, allowed)

    def test_names_of_parameters(self):
        told = {"tree": {}, "holders": [(actor_of(program_of(("cat",))), {})], "rooms": ONE, "process": (0,)}
        self.assertEqual(points_of(**told), 2)
        self.assertEqual(left_at(**told, sign="int"), [({}, [130]), ({}, [130]), ({}, [0])])
        self.assertEqual((torn_files(**told, sign="int"), first_torn(**told, sign="int")), ([], None))


if __name__ == "__main__":
    unittest.main()
