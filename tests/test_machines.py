"""Promises [9.1] to [9.7], and what [12.1], [12.2] say of signals."""

import unittest

from everypipe.actors import actor_of
from everypipe.errors import BadHolders, BadMany, BadPipe, BadRooms, BadSignals, BadTree
from everypipe.filetrees import is_tree
from everypipe.givens import program_of
from everypipe.machines import Machine
from everypipe.programs import Program
from everypipe.refusals import BadProcess, BadSchedule, CannotStep
from everypipe.signs import leaving_out
from helper import Maker, any_objects, changed, is_alike, is_new
from second_machine import SecondMachine, Waits

ONE = {(): 1}
TAKE, PUT = ("pipe", (0,), "take"), ("pipe", (0,), "put")


def doing(*wishes):
    """An actor that tells these wishes, then to be over; with a sign among its answers to be over with 9."""
    def actor(answers):
        if any(isinstance(answer, tuple) for answer in answers):
            return ("over", 9)
        return wishes[len(answers)] if len(answers) < len(wishes) else ("over", 0)
    return actor


def alone(wishes, leads=None, tree=None, rooms=None, signals=()):
    return Machine(tree or {}, [(doing(*wishes), leads or {})], rooms or ONE, signals)


def done(wishes, leads=None, tree=None, rooms=None, signals=(), many=50):
    """What the deeds of one process are, without its name."""
    return [deed[1:] for deed in alone(wishes, leads, tree, rooms, signals).run([], many)]


class Example(unittest.TestCase):
    def machine(self):
        return Machine({}, [(doing(("put", 1, "a"), ("put", 1, "b")), {1: PUT}),
                            (lambda answers: [("take", 0), ("over", 7)][len(answers)], {0: TAKE})], ONE)

    def test_runs(self):
        machine = self.machine()
        self.assertTrue(is_alike(machine.can(), [(0,)]))
        told = machine.run([], 9)
        self.assertTrue(is_alike(told, [((0,), "put", (0,), "a"), ((1,), "take", (0,), "a"), ((0,), "put", (0,), "b"),
                                        ((1,), "over", None, 7), ((0,), "over", None, 0)]))
        self.assertTrue(is_alike(machine.deeds(), told))
        machine = self.machine()
        self.assertEqual(machine.run([0, 0, 1], 9)[-1], ((0,), "broken", (0,), "b"))
        self.assertEqual(machine.status((0,)), 141)


class Takes(unittest.TestCase):
    def test_pipe(self):
        machine = Machine({}, [(doing(("take", 0), ("take", 0)), {0: TAKE}), (doing(("put", 1, "u")), {1: PUT})], ONE)
        self.assertEqual(machine.waiting((0,)), ("take", (0,)))
        self.assertEqual(machine.step((1,)), ((1,), "put", (0,), "u"))
        self.assertEqual(machine.content((0,)), ["u"])
        self.assertEqual(machine.step((0,)), ((0,), "take", (0,), "u"))
        self.assertEqual(machine.content(pipe=[0]), [])
        self.assertEqual(machine.can(), [(1,)])
        machine.step((1,))
        self.assertEqual(machine.step((0,)), ((0,), "heard", (0,), None))

    def test_end_is_heard_only_when_nobody_holds_the_put_side(self):
        machine = Machine({}, [(doing(("take", 0)), {0: TAKE, 5: PUT}), (doing(("close", 1)), {1: PUT})], ONE)
        self.assertEqual(machine.run([], 9), [((1,), "drop", ((0,), "put"), None), ((1,), "over", None, 0)])
        self.assertEqual(machine.waiting((0,)), ("take", (0,)))
        self.assertEqual((machine.is_whole(), machine.left()), (True, [(0,)]))

    def test_what_is_none(self):
        for leads in [{}, {0: PUT}, {0: ("file", "f", "add")}, {0: ("file", "f", "cut")}]:
            self.assertEqual(done([("take", 0)], leads)[0], ("heard", None, None))
        for leads in [{}, {1: TAKE}, {1: ("file", "f", "read")}, {1: ("lines", [])}]:
            self.assertEqual(done([("put", 1, "a")], leads, {"f": []})[0], ("put", None, "a"))

    def test_files_and_lists(self):
        self.assertEqual(done([("take", 0)] * 3, {0: ("file", "d/f", "read")}, {"d": {"f": ["u", "v"]}})[:3],
                         [("read", ("d/f", (-1, 0)), "u"), ("read", ("d/f", (-1, 0)), "v"), ("done", ("d/f", (-1, 0)), None)])
        self.assertEqual(done([("take", 0)] * 3, {3: ("lines", []), 0: ("lines", ["w"])})[:2],
                         [("read", (None, (-1, 0)), "w"), ("done", (None, (-1, 0)), None)])

    def test_a_file_that_is_cut_while_it_is_read(self):
        told = done([("take", 0), ("open", 1, "f", "cut"), ("take", 0), ("put", 1, "x"), ("put", 1, "y"), ("take", 0)],
                    {0: ("file", "f", "read")}, {"f": ["u", "v"]})
        self.assertEqual(told, [("read", ("f", (-1, 0)), "u"), ("cut", "f", None), ("done", ("f", (-1, 0)), None),
                                ("write", "f", "x"), ("write", "f", "y"), ("read", ("f", (-1, 0)), "y"), ("over", None, 0)])

    def test_shared_handles(self):
        child = doing(("take", 0))
        told = alone([("start", [(child, {0: ("own", 3)}), (child, {0: ("own", 3)})], {}), ("wait", 1), ("take", 3)],
                     {3: ("lines", ["a", "b", "c"])}).run([], 50)
        self.assertEqual([deed[3] for deed in told if deed[1] == "read"], ["a", "b", "c"])
        self.assertEqual({deed[2] for deed in told if deed[1] == "read"}, {(None, (-1, 0))})


class Puts(unittest.TestCase):
    def test_rooms(self):
        for room in (1, 3):
            machine = Machine({}, [(doing(*[("put", 1, "a")] * 5), {1: PUT}), (doing(), {0: TAKE})], {(): 9, (0,): room})
            for _ in range(room):
                machine.step((0,))
            self.assertEqual(machine.waiting((0,)), ("put", (0,)))
            self.assertEqual(machine.can(), [(1,)])
            machine.step((1,))
            self.assertEqual(machine.step((0,)), ((0,), "broken", (0,), "a"))
            self.assertEqual((machine.status((0,)), machine.table((0,))), (141, {}))

    def test_broken_ends_all_that_is_held(self):
        machine = Machine({}, [(doing(("put", 1, "a")), {1: PUT, 2: ("pipe", (1,), "put"), 3: ("lines", [])}),
                               (doing(("take", 0)), {0: ("pipe", (1,), "take")})], ONE)
        self.assertEqual(machine.run([], 9), [((0,), "broken", (0,), "a"), ((1,), "heard", (1,), None), ((1,), "over", None, 0)])

    def test_files(self):
        told = done([("put", 1, "a"), ("put", 2, "b"), ("put", 1, "c")], {1: ("file", "f", "add"), 2: ("file", "f", "add")}, {"f": ["u"]})
        self.assertEqual(told[:3], [("write", "f", "a"), ("write", "f", "b"), ("write", "f", "c")])
        machine = alone([("put", 1, "a")], {1: ("file", "f", "cut")}, {"f": ["u"]})
        self.assertEqual(machine.files(), {"f": []})
        machine.run([], 1)
        self.assertEqual(machine.files(), {"f": ["a"]})


class Opens(unittest.TestCase):
    TREE = {"f": ["u"], "d": {"e": {}}}

    def test_all_ways(self):
        for path, way, deed in [
            ("f", "read", ("find", "f", "file")), ("f", "add", ("find", "f", "file")), ("f", "cut", ("cut", "f", None)),
            ("g", "read", ("find", "g", None)), ("g", "add", ("make", "", "g")), ("d/g", "cut", ("make", "d", "g")),
            ("d", "read", ("find", "d", "directory")), ("d/e", "cut", ("find", "d/e", "directory")), ("", "add", ("find", "", "directory")),
            ("x/g", "cut", ("find", "x/g", None)), ("f/g", "add", ("find", "f/g", None)),
        ]:
            machine = alone([("open", 3, path, way)], {}, self.TREE)
            self.assertEqual(machine.run([], 1), [((0,), *deed)])
            word = {None: "lacks", "directory": "directory"}.get(deed[2], "") if deed[0] == "find" else ""
            table = {3: ("file", path, way, (0, 0))} if word == "" else {}
            self.assertTrue(is_alike(machine.table((0,)), table))

    def test_answers(self):
        handed = []

        def actor(answers):
            handed.append(answers)
            wishes = [("open", 3, "f", "read"), ("open", 3, "g", "read"), ("open", 3, "d", "cut"), ("open", 3, ["l"], "lines"),
                      ("take", 3), ("take", 3), ("close", 3), ("close", 3), ("look", "d/e"), ("look", "x"), ("look", ""), ("list", ""),
                      ("list", "d"), ("list", "f"), ("put", 3, "x"), ("over", 0)]
            return wishes[len(answers)]
        machine = Machine(self.TREE, [(actor, {})], ONE)
        machine.run([], 50)
        self.assertEqual(handed[-1], ["", "lacks", "directory", "", "l", None, None, None, "directory", None, "directory", ["d", "f"],
                                      ["e"], None, None])
        self.assertTrue(all(is_new([one, other]) for one in handed for other in handed if one is not other))
        self.assertTrue(is_alike(machine.deeds()[:5], [
            ((0,), "find", "f", "file"), ((0,), "find", "g", None), ((0,), "find", "d", "directory"),
            ((0,), "read", (None, (0, 1)), "l"), ((0,), "done", (None, (0, 1)), None)]))
        self.assertIn(((0,), "list", "", ["d", "f"]), machine.deeds())
        self.assertIn(((0,), "list", "f", None), machine.deeds())
        self.assertTrue(is_new(machine.deeds(), machine.deeds(), *handed))

    def test_what_is_something_is_closed_first(self):
        leads = {1: PUT, 2: PUT, 3: TAKE}
        told = done([("open", 1, "f", "cut"), ("open", 2, "f", "add"), ("open", 3, ["a"], "lines"), ("take", 3)], leads)
        self.assertEqual(told, [("make", "", "f"), ("drop", ((0,), "put"), None), ("find", "f", "file"),
                                ("drop", ((0,), "take"), None), ("read", (None, (0, 2)), "a"), ("over", None, 0)])
        machine = alone([("open", 1, "x/f", "cut")], {1: PUT})
        machine.run([], 2)
        self.assertEqual(machine.table((0,)), {})

    def test_closings(self):
        leads = {1: PUT, 2: PUT, 3: ("lines", ["a"]), 4: ("file", "f", "cut")}
        told = done([("close", 1), ("close", 1), ("close", 3), ("close", 4), ("close", 9), ("close", 2), ("close", 2)], leads)
        self.assertEqual(told, [("drop", ((0,), "put"), None), ("over", None, 0)])


class Starts(unittest.TestCase):
    def test_names_tables_and_pipes(self):
        child = doing(("put", 1, "x"))
        wish = ("start", [(child, {0: ("own", 7), 1: ("new", 1, "put"), 2: ("own", 6)}), (child, {5: ("new", 2, "take"), 6: ("own", 8)})],
                {8: ("new", 0, "take"), 9: ("new", 0, "put")})
        machine = alone([wish, wish], {7: ("lines", []), 8: PUT})
        self.assertEqual(machine.step((0,)), ((0,), "drop", ((0,), "put"), None))
        self.assertEqual(machine.table((0,)), {7: ("lines", (-1, 0))})
        self.assertTrue(is_alike(machine.step((0,)), ((0,), "start", ((0, 0), (0, 1)), ((0, 0), (0, 1), (0, 2)))))
        self.assertTrue(is_alike(machine.table((0,)), {7: ("lines", (-1, 0)), 8: ("pipe", (0, 0), "take"), 9: ("pipe", (0, 0), "put")}))
        self.assertTrue(is_alike(machine.table((0, 0)), {0: ("lines", (-1, 0)), 1: ("pipe", (0, 1), "put")}))
        self.assertTrue(is_alike(machine.table((0, 1)), {5: ("pipe", (0, 2), "take")}))
        self.assertTrue(is_alike(machine.shape(), (
            {(0,): 1, (0, 0): 1, (0, 1): 1, (0, 2): 1},
            {(0,): [((0,), "put"), ((0, 0), "put"), ((0, 0), "take")], (0, 0): [((0, 1), "put")], (0, 1): [((0, 2), "take")]})))
        self.assertEqual(machine.step((0, 0)), ((0, 0), "broken", (0, 1), "x"))
        self.assertEqual([machine.step((0,)) for _ in range(3)], [
            ((0,), "drop", ((0, 0), "take"), None), ((0,), "drop", ((0, 0), "put"), None),
            ((0,), "start", ((0, 2), (0, 3)), ((0, 3), (0, 4), (0, 5)))])
        self.assertEqual(machine.processes(), [(0,), (0, 0), (0, 1), (0, 2), (0, 3)])

    def test_a_side_that_another_descriptor_holds_is_no_deed(self):
        machine = alone([("start", [(doing(), {3: ("own", 1), 4: ("own", 2)})], {1: ("new", 0, "put")})], {1: PUT, 2: PUT})
        self.assertEqual(machine.step((0,)), ((0,), "start", ((0, 0),), ((0, 0),)))
        self.assertEqual(machine.table((0, 0)), {4: PUT})
        self.assertEqual(machine.table((0,)), {1: ("pipe", (0, 0), "put"), 2: PUT})

    def test_none_of_all(self):
        self.assertEqual(done([("start", [], {}), ("start", [], {1: ("new", 1, "take")})]),
                         [("start", (), ()), ("start", (), ((0, 0), (0, 1))), ("over", None, 0)])

    def test_waits_and_asks(self):
        child = lambda answers: ("over", 5)
        machine = alone([("start", [(child, {})], {}), ("ask", 0), ("wait", 0), ("over", ("child", 0))])
        machine.step((0,))
        self.assertEqual(machine.waiting((0,)), ("wait", (0, 0)))
        self.assertEqual(machine.can(), [(0, 0)])
        machine.step((0, 0))
        self.assertEqual([machine.step((0,)) for _ in range(3)], [
            ((0,), "ask", (0, 0), 5), ((0,), "wait", (0, 0), None), ((0,), "over", (0, 0), 5)])
        self.assertEqual(machine.status((0,)), 5)
        machine = alone([("start", [(child, {})], {}), ("over", ("child", 0))])
        machine.step((0,))
        self.assertEqual(machine.waiting((0,)), ("wait", (0, 0)))

    def test_children_that_were_not_started(self):
        for wish in [("wait", 0), ("ask", 0), ("signal", 0, "int"), ("over", ("child", 0)), ("wait", 10 ** 9)]:
            self.assertEqual(done([wish]), [("over", None, 120)])

    def test_become(self):
        heard = []

        def later(answers):
            heard.append(answers)
            return [("open", 4, [], "lines"), ("start", [(doing(), {})], {}), ("wait", 1), ("over", 3)][len(answers)]
        machine = alone([("open", 5, [], "lines"), ("start", [(doing(), {})], {}),
                         ("become", later, {0: ("own", 1), 3: ("own", 2), 4: ("own", 5)})],
                        {1: PUT, 2: ("pipe", (0,), "take"), 3: ("pipe", (2,), "put"), 6: ("pipe", (1,), "take")})
        told = machine.run([0, 0], 2)
        self.assertTrue(is_alike(told[1], ((0,), "become", (((1,), "take"), ((2,), "put")), None)))
        self.assertEqual(machine.table((0,)), {0: PUT, 3: ("pipe", (0,), "take"), 4: ("lines", (0, 0))})
        machine.run([], 9)
        self.assertEqual(heard[0], [])
        self.assertIn(((0,), "start", ((0, 1),), ()), machine.deeds())
        self.assertEqual(machine.status((0,)), 3)

    def test_become_with_all(self):
        told = done([("become", doing(("close", 2)), {2: ("own", 1)})], {1: PUT})
        self.assertEqual(told, [("become", (), None), ("drop", ((0,), "put"), None), ("over", None, 0)])


class NoWishes(unittest.TestCase):
    def test_what_is_no_wish(self):
        for wish in [None, 1, "over", (), ("over",), ("over", 256), ("over", -1), ("over", True), ("over", None), ("over", 0, 0),
                     ("over", ("child",)), ("over", ("child", True)), ("over", ("other", 0)), ("take",), ("take", 32), ("take", "0"),
                     ("take", True), ("take", 0, 0), ("put", 1), ("put", 1, None), ("put", 1, "x" * 61), ("put", 1, "a\n"), ("put", 1, "%"),
                     ("put", 32, "a"), ("close",), ("close", -1), ("open", 1, "f"), ("open", 1, "F", "cut"), ("open", 1, "f", "other"),
                     ("open", 1, "f", None), ("open", 1, "f/", "read"), ("open", 32, "f", "read"), ("open", 1, "f", "lines"),
                     ("open", 1, ["a\n"], "lines"), ("open", 1, ["f"], "read"), ("look", None), ("look", "/"), ("look",), ("list", "a//b"),
                     ("list", 1), ("start", [], None), ("start", None, {}), ("start", []), ("start", [(None, {})], {}),
                     ("start", [(len,)], {}), ("start", [(len, [])], {}), ("start", [(len, {0: ("own",)})], {}),
                     ("start", [(len, {0: ("new", 0)})], {}), ("start", [(len, {0: ("new", 0, "other")})], {}),
                     ("start", [(len, {32: ("own", 0)})], {}), ("start", [(len, {0: ("own", 32)})], {}), ("start", [], {0: ("own", 0)}),
                     ("start", [], {0: ("new", -1, "put")}), ("start", [], {0: ("new", True, "put")}), ("start", [({}, {})], {}),
                     ("wait",), ("wait", -1), ("wait", None), ("ask", "0"), ("signal", 0), ("signal", 0, "hup"), ("signal", 0, 2),
                     ("become", len), ("become", None, {}), ("become", len, {0: ("new", 0, "put")}), ("become", len, {0: ("own", -1)}),
                     ("become", [], {}), ("other", 1), ["take"], {"take": 0}]:
            machine = alone([("start", [(doing(), {})], {}), wish], {1: PUT})
            machine.step((0,))
            self.assertEqual(machine.step((0,)), ((0,), "over", None, 120), wish)

    def test_lists_for_tuples(self):
        child = doing()
        wishes = [["open", 3, "f", "cut"], ["put", 3, "a"], ["open", 4, ("u",), "lines"], ["take", 4], ["close", 3], ["look", "f"],
                  ["list", ""], ["start", ([child, {0: ["own", 4], 1: ["new", 0, "put"]}],), {5: ["new", 0, "take"]}], ["wait", 0], ["ask", 0],
                  ["signal", 0, "int"], ["become", child, {1: ["own", 5]}]]
        one, two = alone(wishes), alone([changed(wish) if wish[0] != "start" else wish for wish in wishes])
        told = one.run([], 60)
        self.assertEqual([deed[1] for deed in told if deed[0] == (0,)],
                         ["make", "write", "read", "find", "list", "start", "wait", "ask", "signal", "become", "over"])
        self.assertTrue(is_alike(told, two.run([], 60)))

    def test_wishes_are_kept_as_they_were(self):
        lines, table = ["a"], {0: ("own", 3)}
        wishes = [("open", 3, lines, "lines"), ("start", [(doing(("take", 0)), table)], {})]
        machine = alone(wishes)
        self.assertEqual(machine.can(), [(0,)])
        lines.append("b")
        table.clear()
        machine.run([], 9)
        self.assertIn(((0, 0), "read", (None, (0, 0)), "a"), machine.deeds())

    def test_a_thousand_silent_wishes(self):
        self.assertEqual(done([("close", 5)] * 999 + [("put", 1, "a")]), [("put", None, "a"), ("over", None, 0)])
        self.assertEqual(done([("close", 5)] * 1000 + [("put", 1, "a")]), [("over", None, 125)])
        self.assertEqual(done([("close", 5), ("open", 5, [], "lines")] * 2000), [("over", None, 125)])
        self.assertEqual(done(([("close", 5)] * 999 + [("put", 1, "a")]) * 2), [("put", None, "a")] * 2 + [("over", None, 0)])

    def test_silent_wishes_are_done_with_the_next_deed(self):
        machine = Machine({}, [(doing(("open", 3, ["a"], "lines"), ("close", 4), ("take", 0)), {0: TAKE, 4: ("lines", [])}),
                               (doing(("put", 1, "x")), {1: PUT})], ONE)
        self.assertEqual(machine.waiting((0,)), ("take", (0,)))
        self.assertEqual(machine.table((0,)), {0: TAKE, 4: ("lines", (-1, 0))})
        machine.run([1, 0], 2)
        self.assertEqual(machine.table((0,)), {0: TAKE, 3: ("lines", (0, 0))})


class Signals(unittest.TestCase):
    def test_at_every_point(self):
        wishes = [("put", 1, "a"), ("put", 1, "b")]
        for many in range(4):
            told = done(wishes, {}, signals=[((0,), many, "term")])
            plain = [("put", None, "a"), ("put", None, "b"), ("over", None, 0)]
            self.assertEqual(told, plain if many == 3 else plain[:many] + [("trap", "term", None), ("over", None, 9)])
            told = done(wishes, {}, signals=[[[0], many, "kill"]])
            self.assertEqual(told, plain if many == 3 else plain[:many] + [("over", None, 137)])

    def test_pending_ones_in_order(self):
        told = done([("put", 1, "a")] * 3, signals=[((0,), 1, "int"), ((1,), 0, "kill"), ((0,), 1, "term"), ((0,), 2, "int"), ((0,), 2, "kill")])
        self.assertEqual(told, [("put", None, "a"), ("trap", "int", None), ("trap", "term", None), ("trap", "int", None),
                                ("over", None, 137)])

    def test_a_waiting_process_hears(self):
        machine = Machine({}, [(doing(("take", 0)), {0: TAKE, 1: PUT})], ONE, [((0,), 0, "int")])
        self.assertIsNone(machine.waiting((0,)))
        self.assertEqual(machine.run([], 9), [((0,), "trap", "int", None), ((0,), "over", None, 9)])

    def test_answers_stand_at_their_place(self):
        handed = []

        def actor(answers):
            handed.append(answers)
            told = [answer for answer in answers if answer != ("sign", "int")]
            return [("open", 3, ["u"], "lines"), ("take", 3), ("put", 1, "x"), ("over", 0)][len(told)]
        machine = Machine({}, [(actor, {})], ONE, [((0,), 1, "int")])
        machine.run([], 9)
        self.assertTrue(is_alike(handed[-1], ["", "u", ("sign", "int"), None]))
        self.assertEqual([deed[1] for deed in machine.deeds()], ["read", "trap", "put", "over"])
        machine = Machine({}, [(actor, {})], ONE, [((0,), 0, "int")])
        machine.can()
        machine.run([], 9)
        self.assertTrue(is_alike(handed[-1], [("sign", "int"), "", "u", None]))
        self.assertEqual(machine.deeds()[1], ((0,), "read", (None, (0, 0)), "u"))

    def test_to_children(self):
        child = doing(("take", 0))
        wishes = [("start", [(child, {0: ("new", 0, "take")})], {4: ("new", 0, "put")}), ("signal", 0, "int"), ("signal", 0, "term"),
                  ("ask", 0), ("signal", 0, "kill")]
        self.assertEqual(alone(wishes).run([], 20), [
            ((0,), "start", ((0, 0),), ((0, 0),)), ((0,), "signal", (0, 0), "int"), ((0, 0), "trap", "int", None),
            ((0,), "signal", (0, 0), "term"), ((0, 0), "trap", "term", None), ((0, 0), "over", None, 9), ((0,), "ask", (0, 0), 9),
            ((0,), "signal", (0, 0), "kill"), ((0,), "over", None, 0)])

    def test_behind_an_over(self):
        machine = alone([], signals=[((0,), 1, "kill"), ((0,), 5, "int")])
        self.assertEqual(machine.run([], 9), [((0,), "over", None, 0)])
        self.assertEqual((machine.status((0,)), machine.left(), machine.waiting((0,))), (0, [], None))

    def test_programs(self):
        cat = actor_of(program_of(("cat",)))
        machine = Machine({}, [(cat, {0: ("lines", ["a", "b"])})], ONE, [((0,), 3, "int")])
        self.assertEqual([deed[1:] for deed in machine.run([], 9)][-2:], [("trap", "int", None), ("over", None, 130)])
        deaf = Machine({}, [(leaving_out(cat, ["int"]), {0: ("lines", ["a", "b"])})], ONE, [((0,), 3, "int")])
        self.assertEqual([deed[1] for deed in deaf.run([], 9)], ["read", "put", "read", "trap", "put", "done", "over"])

    def test_a_signal_between_a_closing_and_its_wish(self):
        told = done([("open", 1, "f", "cut")], {1: PUT}, signals=[((0,), 1, "int")])
        self.assertEqual(told, [("drop", ((0,), "put"), None), ("trap", "int", None), ("over", None, 9)])
        actor = lambda answers: [("open", 1, "f", "cut"), ("over", 0)][len([a for a in answers if not isinstance(a, tuple)])]
        machine = Machine({}, [(actor, {1: PUT})], ONE, [((0,), 1, "int")])
        self.assertEqual([deed[1] for deed in machine.run([], 9)], ["drop", "trap", "make", "over"])


class Schedules(unittest.TestCase):
    def machine(self):
        return Machine({}, [(doing(*[("put", 1, str(k))] * 4), {}) for k in range(3)], ONE)

    def test_picks(self):
        self.assertEqual([deed[0][0] for deed in self.machine().run([2, 4, 3, 10 ** 20], 8)], [2, 1, 0, 1, 2, 0, 1, 2])
        self.assertEqual([deed[0][0] for deed in self.machine().run([], 7)], [0, 1, 2, 0, 1, 2, 0])
        self.assertEqual(self.machine().run((1,), 0), [])
        machine = self.machine()
        machine.run([1], 1)
        self.assertEqual([deed[0][0] for deed in machine.run(schedule=[], many=2)], [0, 1])

    def test_behind_the_last_number(self):
        machine = self.machine()
        self.assertEqual([deed[0][0] for deed in machine.run([1, 1], 5)], [1, 1, 2, 0, 1])
        self.assertEqual([deed[0][0] for deed in machine.run([2], 3)], [2, 0, 1])

    def test_wrong(self):
        machine = self.machine()
        before = machine.copy()
        for schedule in [None, 1, "01", {}, True]:
            with self.assertRaises(BadSchedule) as caught:
                machine.run(schedule, None)
            self.assertEqual(caught.exception.index, 0)
        for number in [-1, True, None, "0", 1.0]:
            with self.assertRaises(BadSchedule) as caught:
                machine.run([0, 1, number, None], None)
            self.assertEqual(caught.exception.index, 2)
        for many in [-1, True, None, "0"]:
            with self.assertRaises(BadMany) as caught:
                machine.run([0], many)
            self.assertIs(caught.exception.many, many)
        for process in [(3,), (0, 0), 0, None, "0", (), [True], (False,), {}]:
            with self.assertRaises(CannotStep) as caught:
                machine.step(process)
            self.assertIs(caught.exception.process, process)
            for function in (machine.table, machine.status, machine.waiting):
                with self.assertRaises(BadProcess) as caught:
                    function(process)
                self.assertIs(caught.exception.process, process)
        for pipe in [(0,), None, 0, "", [1], (True,)]:
            with self.assertRaises(BadPipe) as caught:
                machine.content(pipe)
            self.assertIs(caught.exception.pipe, pipe)
        self.assertTrue(machine == before)
        self.assertEqual(machine.step(process=[1])[0], (1,))

    def test_cannot_step(self):
        machine = Machine({}, [(doing(("take", 0)), {0: TAKE, 1: PUT})], ONE)
        with self.assertRaises(CannotStep):
            machine.step((0,))
        machine = alone([])
        machine.step((0,))
        with self.assertRaises(CannotStep):
            machine.step((0,))


class Made(unittest.TestCase):
    def test_wrong(self):
        for thing in any_objects():
            if not is_tree(thing):
                with self.assertRaises(BadTree) as caught:
                    Machine(thing, None, None, None)
                self.assertIs(caught.exception.tree, thing)
        for holders in [None, [], (), {}, "a", 1]:
            with self.assertRaises(BadHolders) as caught:
                Machine({}, holders, None, None)
            self.assertEqual(caught.exception.index, 0)
        right = [doing(), {0: ("file", "f", "cut"), 1: PUT}]
        for holder in [None, len, (len,), (len, {}, 1), (None, {}), (1, {}), (True, {}), ("a", {}), ([], {}), ({}, {}), (Program([]), {}),
                       (len, None), (len, []), (len, {32: PUT}), (len, {True: PUT}), (len, {"0": PUT}), (len, {0: None}), (len, {0: ("pipe", (0,))}),
                       (len, {0: ("pipe", 0, "put")}), (len, {0: ("pipe", (0, 0), "put")}), (len, {0: ("pipe", (-1,), "put")}),
                       (len, {0: ("pipe", (True,), "put")}), (len, {0: ("pipe", (0,), "puts")}), (len, {0: ("file", "f")}),
                       (len, {0: ("file", "F", "read")}), (len, {0: ("file", "f", "lines")}), (len, {0: ("lines", "a")}),
                       (len, {0: ("lines", [1])}), (len, {0: ("lines",)}), (len, {0: ("other", 1)}), (len, {0: ("file", "g", "read")}),
                       (len, {0: ("file", "d", "add")}), (len, {0: ("file", "x/g", "cut")}), (len, {0: ("file", "", "cut")}),
                       (len, {0: ("file", "f/g", "cut")})]:
            with self.assertRaises(BadHolders) as caught:
                Machine({"d": {}}, [right, holder, None], None, None)
            self.assertEqual(caught.exception.index, 1, holder)
        for rooms in [None, [], {}, {(0,): 1}, {(): 0}, {(): True}, {(): None}, {(): 1, 0: 1}, {(): 1, (0,): 0}, {(): 1, (-1,): 1},
                      {(): 1, ("0",): 1}, {(): 1, "0": 1}, {(): -1}]:
            with self.assertRaises(BadRooms) as caught:
                Machine({}, [right], rooms, None)
            self.assertIs(caught.exception.rooms, rooms)
        for signals in [None, 1, "a", {}]:
            with self.assertRaises(BadSignals) as caught:
                Machine({}, [right], ONE, signals)
            self.assertEqual(caught.exception.index, 0)
        for signal in [None, ((0,), 2), ((0,), 2, "hup"), ((), 2, "int"), (0, 2, "int"), ((0,), -1, "int"), ((0,), 0, "int"), ((0,), True, "int"),
                       ([0], 0, "kill"), ((0,), 2, "int", 0)]:
            with self.assertRaises(BadSignals) as caught:
                Machine({}, [right], ONE, [((1,), 4, "int"), ((0,), 1, "int"), signal, None])
            self.assertEqual(caught.exception.index, 2)

    def test_files_are_opened_in_order(self):
        machine = Machine({"b": ["u"]}, [(doing(), {5: ("file", "a", "cut"), 2: ("file", "b", "read")}), (doing(), {0: ("file", "a", "read")})], ONE)
        self.assertTrue(is_alike(machine.files(), {"a": [], "b": ["u"]}))
        self.assertTrue(is_alike(machine.table((0,)), {2: ("file", "b", "read", (-1, 0)), 5: ("file", "a", "cut", (-1, 1))}))
        self.assertTrue(is_alike(machine.table((1,)), {0: ("file", "a", "read", (-1, 2))}))
        with self.assertRaises(BadHolders):
            Machine({}, [(doing(), {0: ("file", "a", "read"), 1: ("file", "a", "cut")})], ONE)

    def test_what_is_passed_and_told(self):
        tree, leads, rooms, signals = {"f": ["u"]}, {0: ["lines", ["a"]], 1: ["pipe", [3], "put"]}, {(): 2, (9, 9): 1}, [[[0], 5, "int"]]
        holders = [[doing(("take", 0), ("open", 2, "f", "cut")), leads]]
        machine = Machine(tree=tree, holders=holders, rooms=rooms, signals=signals)
        twin = machine.copy()
        tree["f"].append("v")
        leads[0][1].append("b")
        leads.clear()
        rooms[()] = 7
        signals.clear()
        holders.clear()
        machine.files()["f"].append("w")
        machine.table((0,)).clear()
        machine.shape()[0].clear()
        machine.content((3,)).append("x")
        machine.deeds().append(1)
        machine.processes().append(1)
        machine.can().append(1)
        machine.left().append(1)
        self.assertTrue(machine == twin)
        self.assertEqual(machine.shape(), ({(3,): 2}, {(0,): [((3,), "put")]}))
        self.assertEqual(machine.files(), {"f": ["u"]})
        told = machine.run([], 9)
        told.clear()
        self.assertEqual(len(machine.deeds()), 3)

    def test_tables_ascend(self):
        machine = alone([("open", 9, [], "lines"), ("open", 2, "f", "cut")], {5: PUT, 3: ("lines", []), 4: ("file", "g", "add")})
        machine.step((0,))
        self.assertEqual(list(machine.table((0,))), [2, 3, 4, 5, 9])


class Equal(unittest.TestCase):
    def test_equal(self):
        actor = doing(("put", 1, "a"), ("take", 0))
        make = lambda tree=None, leads=None, rooms=None, signals=(), who=actor: Machine(
            tree or {}, [(who, leads or {1: PUT, 0: ("lines", ["u"])})], rooms or ONE, signals)
        self.assertTrue(make() == make())
        self.assertFalse(make() != make())
        self.assertTrue(make(signals=[[[0], 1, "int"]]) == make(signals=(((0,), 1, "int"),)))
        for other in [make(tree={"f": []}), make(leads={1: PUT}), make(leads={1: PUT, 0: ("lines", ["v"])}), make(rooms={(): 2}),
                      make(signals=[((0,), 1, "int")]), make(who=doing(("put", 1, "a"))),
                      make(leads={1: ("pipe", (1,), "put"), 0: ("lines", ["u"])})]:
            self.assertFalse(make() == other)
            self.assertTrue(make() != other)
        one, two = make(), make()
        one.step((0,))
        self.assertFalse(one == two)
        two.can()
        two.step((0,))
        self.assertTrue(one == two)
        for thing in any_objects():
            self.assertFalse(one == thing)
        program = program_of(("cat",))
        self.assertTrue(make(who=actor_of(program)) == make(who=actor_of(program_of(("cat",)))))

    def test_copies_go_on_by_themselves(self):
        machine = alone([("put", 1, "a"), ("put", 1, "b")], {1: ("file", "f", "cut")})
        machine.step((0,))
        copy = machine.copy()
        self.assertTrue(copy == machine)
        copy.run([], 9)
        self.assertEqual((machine.files(), copy.files()), ({"f": ["a"]}, {"f": ["a", "b"]}))
        machine.run([], 9)
        self.assertTrue(copy == machine)


class RandomMaker(Maker):
    """Makes machines of actors that tell made-up wishes."""

    def wishes(self, depth):
        n = lambda: self.random.randrange(5)
        told = []
        for _ in range(self.random.randint(0, 7)):
            told.append(self.pick([
                ("take", n()), ("take", n()), ("put", n(), self.pick("uv")), ("put", n(), self.pick("uv")), ("close", n()),
                ("open", n(), self.pick(["f", "g", "d", "x/f", "d/h"]), self.pick(["read", "cut", "add"])), ("open", n(), ["p", "q"], "lines"),
                ("look", "f"), ("list", ""), ("wait", self.pick([0, 0, 1])), ("ask", 0), ("signal", 0, self.pick(["int", "kill", "term"])),
                ("over", self.pick([0, 3]))][:-1]))
            if depth and self.chance(25):
                rows = [(self.actor(depth - 1), {n(): self.pick([("own", n()), ("new", self.pick([0, 1]), self.pick(["take", "put"]))])
                                                 for _ in range(3)}) for _ in range(self.random.randint(1, 2))]
                told.append(("start", rows, {n(): ("new", 0, self.pick(["take", "put"])) for _ in range(self.pick([0, 1]))}))
            if depth and self.chance(5):
                told.append(("become", self.actor(depth - 1), {n(): ("own", n()) for _ in range(3)}))
        return told

    def actor(self, depth):
        wishes = self.wishes(depth)

        def actor(answers):
            told = [answer for answer in answers if not isinstance(answer, tuple)]
            return wishes[len(told)] if len(told) < len(wishes) else ("over", len(answers))
        return actor

    def holder(self):
        leads = {n: self.pick([("pipe", (self.pick([0, 1]),), self.pick(["take", "put"])), ("file", "f", self.pick(["read", "add"])),
                               ("lines", ["l", "m"])]) for n in range(5) if self.chance(70)}
        return (self.actor(2), leads)

    def made_of(self):
        """What a machine is made of."""
        rooms = {(): self.pick([1, 2]), (0,): self.pick([1, 3])}
        signals = [((0,), self.random.randrange(4), self.pick(["int", "kill"]))] if self.chance(30) else []
        return ({"f": ["x"], "d": {}}, self.some(self.holder, 1, 3), rooms, signals)

    def machine(self):
        return Machine(*self.made_of())

    def schedule(self, most=12):
        return [self.random.randrange(4) for _ in range(self.random.randrange(most))]


class ItHolds(unittest.TestCase):
    def sides(self, machine):
        """The sides that are held by somebody who is not over."""
        return {lead[1:] for name in machine.left() for lead in machine.table(name).values() if lead[0] == "pipe"}

    def check(self, machine):
        rooms, holds = machine.shape()
        self.assertEqual(list(holds), machine.processes())
        self.assertEqual(machine.processes(), sorted(machine.processes()))
        deeds = machine.deeds()
        for pipe, room in rooms.items():
            puts = [deed[3] for deed in deeds if deed[1:3] == ("put", pipe)]
            takes = [deed[3] for deed in deeds if deed[1:3] == ("take", pipe)]
            self.assertEqual(puts[:len(takes)], takes)
            self.assertEqual(machine.content(pipe), puts[len(takes):])
            self.assertLessEqual(len(machine.content(pipe)), room)
        held = self.sides(machine)
        for name in machine.processes():
            states = [machine.status(name) is not None, name in machine.can(), machine.waiting(name) is not None]
            self.assertEqual(states.count(True), 1, states)
            wait = machine.waiting(name)
            if wait is not None and wait[0] == "take":
                self.assertEqual((machine.content(wait[1]), (wait[1], "put") in held), ([], True))
            elif wait is not None and wait[0] == "put":
                self.assertEqual((len(machine.content(wait[1])), (wait[1], "take") in held), (rooms[wait[1]], True))
            elif wait is not None:
                self.assertIsNone(machine.status(wait[1]))
            for lead in machine.table(name).values():
                if lead[0] == "pipe":
                    self.assertIn(lead[1:], holds[name])
            self.assertEqual(holds[name], sorted(set(holds[name])))
        self.assertEqual(machine.left(), [name for name in machine.processes() if machine.status(name) is None])
        self.assertEqual(machine.is_whole(), not machine.can())

    def test_many_machines(self):
        maker = RandomMaker(1)
        for _ in range(250):
            machine = maker.machine()
            self.check(machine)
            for number in maker.schedule(30):
                if machine.is_whole():
                    break
                able = machine.can()
                name = able[number % len(able)]
                held = self.sides(machine)
                before = machine.table(name)
                deed = machine.step(name)
                self.assertEqual(deed[0], name)
                gone = {lead[1:] for lead in before.values() if lead[0] == "pipe"}
                gone -= {lead[1:] for lead in machine.table(name).values() if lead[0] == "pipe"}
                told = {"drop": lambda: {deed[2]}, "become": lambda: set(deed[2])}.get(deed[1], lambda: gone if deed[1] in ("over", "broken") else set())()
                self.assertEqual(gone, told)
                if deed[1] == "heard" and deed[2] is not None:
                    self.assertNotIn((deed[2], "put"), held)
                elif deed[1] == "broken":
                    self.assertNotIn((deed[2], "take"), held)
                    self.assertEqual(machine.status(name), 141)
                self.check(machine)

    def test_as_a_second_machine(self):
        maker = RandomMaker(5)
        for _ in range(400):
            made_of = maker.made_of()
            machine, second = Machine(*made_of), SecondMachine(*made_of)
            for number in maker.schedule(40) + [0] * 30:
                behind = {}
                for name in sorted(second.processes):
                    if second.processes[name]["status"] is None:
                        try:
                            behind[name] = second.next(name)
                            self.assertIsNone(machine.waiting(name))
                        except Waits as waits:
                            self.assertEqual(machine.waiting(name), waits.thing)
                self.assertEqual(machine.can(), list(behind))
                if not behind:
                    break
                name = list(behind)[number % len(behind)]
                second = behind[name]
                self.assertTrue(is_alike(machine.step(name), second.row[-1]))
                self.assertEqual(machine.files(), second.tree)
                self.assertEqual({name: machine.table(name) for name in machine.processes()},
                                 {name: dict(sorted(process["table"].items())) for name, process in second.processes.items()})
            self.assertTrue(is_alike(machine.deeds(), second.row))
            self.assertEqual([machine.status(name) for name in machine.processes()], [second.processes[name]["status"] for name in machine.processes()])

    def test_runs_in_pieces_and_on_copies(self):
        maker = RandomMaker(2)
        for _ in range(250):
            machine, schedule = maker.machine(), maker.schedule()
            whole, pieces = machine.copy(), machine.copy()
            many = len(schedule)
            told = whole.run(schedule, many)
            at = maker.random.randrange(many + 1)
            first = pieces.run(schedule[:at], at)
            pieces = maker.pick([pieces, pieces.copy()])
            rest = pieces.run(schedule[at:], many - at)
            self.assertTrue(is_alike(first + rest, told))
            self.assertTrue(is_alike(pieces.deeds(), whole.deeds()))
            self.assertTrue(pieces == whole)
            self.assertEqual(machine.deeds(), [])
            again = machine.copy()
            self.assertTrue(is_alike(again.run(schedule, 60), machine.run(schedule, 60)))
            self.assertTrue(again == machine)

    def test_schedules_number_by_number(self):
        maker = RandomMaker(3)
        for _ in range(150):
            machine, schedule = maker.machine(), maker.schedule()
            copy, told, last = machine.copy(), [], None
            while len(told) < 40 and copy.can():
                able = copy.can()
                if len(told) < len(schedule):
                    name = able[schedule[len(told)] % len(able)]
                else:
                    name = next((name for name in able if last is not None and name > last), able[0])
                told.append(copy.step(name))
                last = name
            self.assertTrue(is_alike(machine.run(schedule, 40), told))

    def test_who_can_go_on_can_do_so_until_it_does(self):
        maker = RandomMaker(4)
        for _ in range(150):
            machine = maker.machine()
            for number in maker.schedule(25):
                able = machine.can()
                if not able:
                    break
                name = able[number % len(able)]
                deed = machine.step(name)
                now = machine.can()
                for other in able:
                    if other != name and other not in now:
                        self.assertIn(deed[1], ("take", "put"))
                        self.assertEqual(machine.waiting(other), (deed[1], deed[2]))


if __name__ == "__main__":
    unittest.main()
