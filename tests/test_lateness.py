"""Promise [13.4], and of [13.6] what stands in this file."""

import unittest

from everypipe.errors import BadMany
from everypipe.lateness import is_late, late_run
from everypipe.machines import Machine
from everypipe.orders import counts
from everypipe.refusals import BadMachine, BadNet, BadRow
from helper import any_objects, changed, is_alike, is_new
from made_machines import MachineMaker, raised, telling
from test_machines import RandomMaker

P, Q, R = (0,), (1,), (2,)
PIPE = (0,)
PUT, TAKE = ("pipe", PIPE, "put"), ("pipe", PIPE, "take")
NET = ({PIPE: 1}, {P: [(PIPE, "put")], Q: [(PIPE, "take")]})
put, take = (P, "put", PIPE, "a"), (Q, "take", PIPE, "a")
over_p, over_q, broken = (P, "over", None, 0), (Q, "over", None, 0), (P, "broken", PIPE, "a")


def endless_and_one(room=1):
    return Machine({}, [(telling([], ("put", 1, "a")), {1: PUT}), (telling([("take", 0)]), {0: TAKE})], {(): room})


def barred(machine):
    """The pipes of which the take side is closed and the put side is not."""
    held = {lead[1:] for name in machine.left() for lead in machine.table(name).values() if lead[0] == "pipe"}
    return {pipe for pipe in machine.shape()[0] if (pipe, "take") not in held and (pipe, "put") in held}


def late_again(machine, many):
    """The late run, each next deed tried on copies."""
    machine, row = machine.copy(), []
    while len(row) < many and machine.can():
        tried = []
        for name in machine.can():
            other = machine.copy()
            deed = other.step(name)
            more = len(barred(other) - barred(machine))
            tried.append(((1, 0) if deed[1] == "broken" else (2, more) if more else (0, 0), name, deed, other))
        _, _, deed, machine = min(tried, key=lambda one: one[:2])
        row.append(deed)
    return row


class LateRuns(unittest.TestCase):
    def test_example(self):
        told = late_run(endless_and_one(), 99)
        self.assertTrue(is_alike(told, [put, take, put, over_q, broken]))
        self.assertIs(is_late(NET, told), True)

    def test_many(self):
        whole = late_run(endless_and_one(), 99)
        for many in range(7):
            self.assertEqual(late_run(machine=endless_and_one(), many=many), whole[:many])

    def test_a_broken_one_first_then_the_fewest_pipes(self):
        # (0,) can be broken at once; (1,) and (2,) bar (3,), who waits for itself, by two pipes and by one.
        takers = [(telling([]), {0: ("pipe", (1,), "take"), 1: ("pipe", (2,), "take")}), (telling([]), {0: ("pipe", (3,), "take")})]
        stuck = {0: ("pipe", (8,), "take"), 8: ("pipe", (8,), "put"), **{n: ("pipe", (n,), "put") for n in (1, 2, 3)}}
        for more, told in [({}, [(P, "broken"), (R, "over"), (Q, "over")]), ({0: ("pipe", (3,), "take")}, [(R, "over"), (P, "broken"), (Q, "over")])]:
            first = (telling([("put", 1, "a")]), {1: ("pipe", (9,), "put"), **more})
            machine = Machine({}, [first, *takers, (telling([("take", 0)]), stuck)], {(): 1})
            self.assertEqual([deed[:2] for deed in late_run(machine, 9)], told)
        machine = Machine({}, [*takers, (telling([("take", 0)]), stuck), (telling([("take", 0)]), {0: ("pipe", (3,), "take")})], {(): 1})
        self.assertEqual([deed[:2] for deed in late_run(machine, 9)], [(Q, "over"), (P, "over")])
        machine = Machine({}, [*takers[::-1], (telling([("take", 0)]), {**stuck, 4: ("pipe", (4,), "put")}), (telling([]), {0: ("pipe", (4,), "take")})], {(): 1})
        self.assertEqual([deed[0] for deed in late_run(machine, 9)], [P, (3,), Q])

    def test_all_ways_to_bar(self):
        # By a drop, by become, by over, by kill, by what is opened over it, by being broken.
        other = telling([])
        for wishes, deed, signals in [
            ([("close", 0)], "drop", []), ([("become", other, {})], "become", []), ([], "over", []), ([("take", 0)], "over", [((0,), 0, "kill")]),
            ([("open", 0, "f", "add")], "drop", []), ([("open", 0, [], "lines")], "drop", []), ([("start", [], {0: ("new", 0, "put")})], "drop", []),
        ]:
            machine = Machine({}, [(telling(wishes), {0: TAKE}), (telling([("put", 1, "a")] * 2), {1: PUT})], {(): 5}, signals)
            told = late_run(machine, 9)
            self.assertEqual([one[:2] for one in told[:4]], [(Q, "put"), (Q, "put"), (Q, "over"), (P, deed)], wishes)
            self.assertTrue(is_late(machine.shape(), told[:4]))

    def test_what_does_not_bar(self):
        # The put side is closed too, or somebody, or another descriptor, holds the take side; a sign that is heard bars nobody.
        endless = telling([], ("put", 1, "a"))
        for leads, wishes, deed, signals in [
            ({0: TAKE, 1: PUT}, [], (P, "over", None, 0), []), ({0: TAKE}, [("become", telling([]), {3: ("own", 0)})], (P, "become", (), None), []),
            ({0: TAKE}, [], (P, "trap", "int", None), [(P, 0, "int")]),
        ]:
            others = [] if 1 in leads else [(endless, {1: PUT})]
            machine = Machine({}, [(telling(wishes), leads), *others], {(): 5}, signals)
            self.assertEqual(late_run(machine, 1), [deed])
        machine = Machine({}, [(telling([("close", 0)]), {0: TAKE}), (endless, {1: PUT, 0: TAKE})], {(): 5})
        self.assertEqual(late_run(machine, 2), [(P, "drop", (PIPE, "take"), None), (P, "over", None, 0)])
        machine = Machine({}, [(telling([("close", 1), ("put", 2, "z")]), {0: TAKE, 1: TAKE}), (endless, {1: PUT})], {(): 5})
        self.assertEqual(late_run(machine, 1), [(P, "put", None, "z")])

    def test_a_new_pipe_that_nobody_takes_from(self):
        child = telling([("put", 1, "a")])
        for lead, first in [(("new", 0, "put"), Q), (("new", 0, "take"), P)]:
            machine = Machine({}, [(telling([("start", [(child, {1: lead})], {})]), {}), (telling([]), {})], {(): 1})
            told = late_run(machine, 9)
            self.assertEqual(told[0][0], first)
            machine.run([], 9)
            self.assertTrue(is_late(machine.shape(), told))
        row = [(P, "start", ((0, 0),), ((0, 0),)), (Q, "over", None, 0)]
        net = ({(0, 0): 1}, {P: [], (0, 0): [((0, 0), "put")], Q: []})
        self.assertFalse(is_late(net, row))
        self.assertTrue(is_late(net, row[::-1]))

    def test_it_goes_on_from_where_the_machine_is(self):
        machine = endless_and_one()
        machine.step(P)
        before = machine.deeds()
        self.assertEqual(late_run(machine, 2), [take, put])
        self.assertEqual(machine.deeds(), before)

    def test_as_tried_on_copies(self):
        for maker in (MachineMaker(31), RandomMaker(32)):
            for _ in range(150):
                machine = maker.machine()
                twin = machine.copy()
                told = late_run(machine, 50)
                self.assertTrue(is_alike(told, late_again(machine, 50)))
                self.assertTrue(is_new(told))
                self.assertTrue(machine == twin)
                for deed in told:
                    twin.step(deed[0])
                self.assertTrue(is_late(twin.shape(), told))

    def test_wrong(self):
        for thing in any_objects():
            self.assertIs(raised(BadMachine, late_run, thing, None).machine, thing)
            if not isinstance(thing, int) or isinstance(thing, bool) or thing < 0:
                self.assertIs(raised(BadMany, late_run, endless_and_one(), thing).many, thing)


class LateRows(unittest.TestCase):
    def test_rows(self):
        for row, told in [
            ([], True), ([put], True), ([put, take, over_q], True), ([over_q, over_p], False), ([over_p, over_q], True),
            ([put, take, put, over_q, broken], True), ([put, take, over_q, broken], True), ([put, over_q, over_p], False),
            ([over_q, broken], True), ([over_q, (P, "broken", PIPE, "b")], True), ([over_q, (P, "find", "f", None)], False), ([over_q, (P, "drop", (PIPE, "put"), None)], False),
            ([(Q, "drop", (PIPE, "take"), None), over_q], True), ([(Q, "drop", (PIPE, "take"), None), over_q, over_p], False),
            ([(Q, "become", ((PIPE, "take"),), None), over_p], False), ([(P, "drop", (PIPE, "put"), None), over_q, over_p], True),
        ]:
            self.assertIs(is_late(NET, row), told, row)
            self.assertIs(is_late(net=changed(NET), row=changed(row)), told)

    def test_what_needs_the_deed_that_bars(self):
        net = ({PIPE: 1}, {P: [(PIPE, "put")], Q: [(PIPE, "take")], R: []})
        self.assertTrue(is_late(net, [over_p, (R, "find", "f", None), over_q, (R, "wait", Q, None), (R, "over", None, 0)]))
        self.assertFalse(is_late(net, [over_q, (R, "wait", Q, None), (R, "over", None, 0), broken, (R, "over", None, 0)][:2] + [over_p]))
        # A deed that bars may stand ahead of one that would bar there, not ahead of another one.
        both = ({PIPE: 1, (1,): 1}, {P: [(PIPE, "take")], Q: [((1,), "take")], R: [(PIPE, "put"), ((1,), "put")]})
        self.assertTrue(is_late(both, [over_p, over_q]))
        self.assertTrue(is_late(both, [over_p, over_q, (R, "broken", PIPE, "a")]))
        self.assertFalse(is_late(both, [over_p, over_q, (R, "over", None, 0)]))
        self.assertTrue(is_late(both, [(R, "over", None, 0), over_p, over_q]))

    def test_as_tried_on_machines(self):
        seen = set()
        for maker in (MachineMaker(33), RandomMaker(34)):
            for _ in range(120):
                first = maker.machine()
                machine = first.copy()
                machine.run(maker.schedule(30), 40)
                net, row = machine.shape(), machine.deeds()
                number = [sum(deed[0] == row[at][0] for deed in row[:at + 1]) for at in range(len(row))]
                past = counts(net, row)

                def bars_at(place, later):
                    here = first.copy()
                    for deed in row[:place]:
                        here.step(deed[0])
                    before = barred(here)
                    return row[later][1] == "broken" or (here.step(row[later][0]) and bool(barred(here) - before))
                told = True
                for place in range(len(row)):
                    if bars_at(place, place):
                        for later in range(place + 1, len(row)):
                            if all(at < place for at in range(later) if past[later][row[at][0]] >= number[at]):
                                told = told and bars_at(place, later)
                self.assertIs(is_late(net, row), told)
                seen.add(told)
        self.assertEqual(len(seen), 2)

    def test_wrong(self):
        for thing in any_objects():
            self.assertIs(raised(BadNet, is_late, thing, None).net, thing)
            if thing not in ([], ()):
                self.assertIs(raised(BadRow, is_late, NET, thing).row, thing)


if __name__ == "__main__":
    unittest.main()
