"""Promises [14.3] and [14.4]."""

import unittest

from everypipe.errors import BadMany
from everypipe.lateness import is_late, late_run
from everypipe.looking import looked_at
from everypipe.machines import Machine
from everypipe.refusals import BadMachine
from everypipe.sureness import cuts
from everypipe.words import word_of
from helper import any_objects, is_alike, is_new
from made_machines import MachineMaker, all_ends, own_parts, raised, telling
from test_machines import RandomMaker

P, Q, R = (0,), (1,), (2,)
PIPE = (0,)
PUT, TAKE = ("pipe", PIPE, "put"), ("pipe", PIPE, "take")


def endless_and_one():
    return Machine({}, [(telling([], ("put", 1, "a")), {1: PUT}), (telling([("take", 0)]), {0: TAKE})], {(): 1})


def told_part(deed):
    """A deed without the status of a child that it takes over."""
    return deed[:3] if deed[1] == "over" and deed[2] is not None else deed


class LookedAt(unittest.TestCase):
    def test_whole(self):
        machine = endless_and_one()
        twin = machine.copy()
        told = looked_at(machine, 5)
        self.assertTrue(is_alike(told, (("one",), ({PIPE: 1}, {P: [(PIPE, "put")], Q: [(PIPE, "take")]}), late_run(machine, 9), {})))
        self.assertTrue(is_alike(looked_at(machine=machine, many=99), told))
        self.assertTrue(is_new(told, looked_at(machine, 5)))
        self.assertTrue(machine == twin)

    def test_many(self):
        for many in range(5):
            self.assertTrue(is_alike(looked_at(endless_and_one(), many), ("many",)))
        self.assertEqual(looked_at(Machine({}, [(telling([]), {})], {(): 1}), 0), ("many",))
        self.assertEqual(looked_at(Machine({}, [(telling([]), {})], {(): 1}), 1)[0], ("one",))
        self.assertEqual(looked_at(Machine({}, [(telling([], ("look", "f")), {})], {(): 1}), 500), ("many",))

    def test_waits(self):
        child = telling([("take", 0)])
        machine = Machine({}, [(telling([("start", [(child, {0: ("new", 0, "take"), 1: ("new", 0, "put")})], {}), ("wait", 0)]), {1: PUT}),
                               (telling([("take", 0)]), {0: TAKE}), (telling([("put", 1, "a")] * 2), {1: ("pipe", (1,), "put"), 2: ("pipe", (1,), "take")})], {(): 1})
        told = looked_at(machine, 99)
        self.assertTrue(is_alike(told[3], {P: ("wait", (0, 0)), (0, 0): ("take", (0, 0)), Q: ("take", PIPE), R: ("put", (1,))}))
        self.assertEqual(told[0], ("one",))

    def test_open_ones_are_put_off(self):
        # Both bar each other; (0,) goes first, being the lesser one, and then (1,) is broken although there was room.
        first = (telling([]), {2: TAKE, 3: ("pipe", (1,), "put")})
        machine = Machine({}, [first, (telling([("close", 4), ("put", 1, "a")]), {1: PUT, 4: ("pipe", (1,), "take")})], {(): 1})
        drop = (Q, "drop", ((1,), "take"), None)
        late = late_run(machine, 9)
        self.assertEqual(late, [(P, "over", None, 0), drop, (Q, "broken", PIPE, "a")])
        self.assertEqual(word_of(({PIPE: 1, (1,): 1}, {P: [(PIPE, "take"), ((1,), "put")], Q: [(PIPE, "put"), ((1,), "take")]}), late, {}), ("open", P))
        word, _, row, waits = looked_at(machine, 9)
        self.assertEqual((word, row, waits), (("one",), [drop, (Q, "put", PIPE, "a"), (Q, "over", None, 0), (P, "over", None, 0)], {}))
        # The run made anew has to be whole within as many deeds, too.
        self.assertEqual(looked_at(machine, 4)[0], ("one",))
        self.assertEqual(looked_at(machine, 3), ("many",))
        # One process more each time.
        rest = [(telling([("close", 4 + at), ("put", 2 + at, "b")]), {2 + at: ("pipe", (2 * at,), "put"), 4 + at: ("pipe", (2 * at + 1,), "take")}) for at in (1, 2)]
        firsts = [(telling([]), {0: ("pipe", (2 * at,), "take"), 1: ("pipe", (2 * at + 1,), "put")}) for at in (1, 2)]
        machine = Machine({}, firsts + rest, {(): 1})
        self.assertEqual(looked_at(machine, 99)[0], ("one",))
        self.assertEqual([deed[:2] for deed in late_run(machine, 99)].count(((2,), "broken")), 1)

    def late_runs(self, machine, put_off):
        """The late run in which the barring deeds of some come behind those of others, each next deed tried on copies."""
        def barred(one):
            held = {lead[1:] for name in one.left() for lead in one.table(name).values() if lead[0] == "pipe"}
            return {pipe for pipe in one.shape()[0] if (pipe, "take") not in held and (pipe, "put") in held}
        machine = machine.copy()
        while machine.can() and len(machine.deeds()) < 80:
            tried = []
            for name in machine.can():
                other = machine.copy()
                deed = other.step(name)
                more = len(barred(other) - barred(machine))
                tried.append(((1, 0, 0) if deed[1] == "broken" else (2, name in put_off, more) if more else (0, 0, 0), name))
            machine.step(min(tried)[1])
        return machine

    def test_as_tried_on_copies(self):
        many_open = 0
        for maker in (MachineMaker(61), RandomMaker(62)):
            for _ in range(250):
                machine = maker.machine()
                put_off = []
                while True:
                    run = self.late_runs(machine, put_off)
                    if run.can():
                        self.assertEqual(looked_at(machine, 80), ("many",))
                        break
                    waits = {name: run.waiting(name) for name in run.left()}
                    word = word_of(run.shape(), run.deeds(), waits)
                    if word[0] == "open" and word[1] not in put_off:
                        put_off.append(word[1])
                        many_open += 1
                        continue
                    self.assertTrue(is_alike(looked_at(machine, 80), (word, run.shape(), run.deeds(), waits)))
                    self.assertTrue(is_late(run.shape(), run.deeds()))
                    break
        self.assertGreater(many_open, 0)

    def test_wrong(self):
        done = endless_and_one()
        done.step(P)
        for thing in any_objects() + [done]:
            self.assertIs(raised(BadMachine, looked_at, thing, None).machine, thing)
        for thing in [None, -1, True, "9", [], 1.5]:
            self.assertIs(raised(BadMany, looked_at, endless_and_one(), thing).many, thing)


class OneRunTellsAll(unittest.TestCase):
    def check(self, machine):
        """Whether the machine is one; then all its schedules are gone through."""
        told = looked_at(machine, 100)
        if told[0] != ("one",):
            return False
        ends = all_ends(machine, 150)
        if ends is None:
            return False
        _, net, row, waits = told
        late, cut = own_parts(row), cuts(net, row)
        whole = machine.copy()
        for deed in row:
            whole.step(deed[0])
        for end in ends:
            self.assertEqual((end.files(), end.left()), (whole.files(), whole.left()))
            self.assertEqual({name: end.waiting(name) for name in end.left()}, waits)
            own = own_parts(end.deeds())
            self.assertLessEqual(set(own), set(late))
            for name in late:
                self.check_own(own.get(name, []), late[name], cut.get(name))
        return len(ends) > 0 and len(cut) > 0

    def check_own(self, own, late, cut):
        broken = own[-1] if own and own[-1][1] == "broken" else None
        done = [told_part(deed) for deed in own if deed[1] != "broken"]
        sure = [told_part(deed) for deed in late if deed[1] != "broken"]
        self.assertEqual(done, sure[:len(done)])
        if cut is None:
            self.assertEqual(len(own), len(late))
        else:
            self.assertGreaterEqual(len(done), cut - 1)
            self.assertTrue(broken is not None or len(done) == len(sure))
        if broken is not None and len(done) < len(sure):
            self.assertEqual((broken[0], "put", *broken[2:]), late[len(done)])

    def test_nets(self):
        many = 0
        for maker in (MachineMaker(63), MachineMaker(64), RandomMaker(65)):
            for _ in range(200):
                many += self.check(maker.machine())
        self.assertGreater(many, 80)


if __name__ == "__main__":
    unittest.main()
