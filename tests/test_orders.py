"""Promises [13.1], [13.2], [13.3], and of [13.6] what stands in this file."""

import unittest

from everypipe.machines import Machine
from everypipe.orders import counts, dependent, first_pair, misfit
from everypipe.refusals import BadDeed, BadNet, BadRow
from helper import Maker, any_objects, changed, is_alike, is_new
from test_machines import RandomMaker, doing

P, Q = (0,), (1,)
PIPE = (0,)
NET = ({PIPE: 1}, {P: [(PIPE, "put")], Q: [(PIPE, "take")]})
WRONG_NETS = [None, 1, "a", [], (), ({},), ({}, {}, {}), ({}, []), ([], {}), ({PIPE: 0}, {}), ({PIPE: True}, {}), ({PIPE: None}, {}), ({0: 1}, {}),
              ({(): 1}, {}), ({("0",): 1}, {}), ({(-1,): 1}, {}), ({}, {0: []}), ({}, {(): []}), ({}, {P: None}), ({}, {P: {}}), ({}, {P: [PIPE]}),
              ({PIPE: 1}, {P: [(PIPE, "other")]}), ({PIPE: 1}, {P: [(PIPE, "put", 1)]}), ({PIPE: 1}, {P: [(0, "put")]}), ({}, {P: [(PIPE, "put")]}),
              ({PIPE: 1}, {P: [(PIPE, "take"), (PIPE, "put")]}), ({PIPE: 1}, {P: [(PIPE, "take"), (PIPE, "take")]}), ({}, {"a": []})]
FORMS = [
    (P, "take", PIPE, "a"), (P, "heard", PIPE, None), (P, "heard", None, None), (P, "put", PIPE, "a"), (P, "put", None, ""), (P, "broken", PIPE, "a"),
    (P, "read", ("d/f", (0, 3)), "a"), (P, "read", (None, (-1, 0)), "a"), (P, "done", ("f", (3, 0, 1)), None), (P, "write", "d/f", "a"),
    (P, "cut", "f", None), (P, "make", "", "f"), (P, "make", "d", "f"), (P, "list", "", ["a", "b"]), (P, "list", "d", None), (P, "find", "", "directory"),
    (P, "find", "f", "file"), (P, "find", "f", None), (P, "drop", (PIPE, "put"), None), (P, "start", (), ()), (P, "start", ((0, 0),), ((0, 0), (0, 1))),
    (P, "become", (), None), (P, "become", ((PIPE, "put"), ((1,), "take")), None), (P, "wait", (0, 0), None), (P, "ask", (0, 0), 255), (P, "over", None, 0),
    (P, "over", (0, 0), 7), (P, "signal", (0, 0), "kill"), (P, "trap", "int", None), ((3, 4, 5), "trap", "term", None),
]
NO_FORMS = [
    None, 1, "take", (), (P, "take"), (P, "take", PIPE), (P, "take", PIPE, "a", 1), (P, "other", PIPE, "a"), (P, None, PIPE, "a"), (0, "take", PIPE, "a"),
    ((), "take", PIPE, "a"), (None, "take", PIPE, "a"), ((True,), "take", PIPE, "a"), ((-1,), "take", PIPE, "a"), ("0", "take", PIPE, "a"),
    (P, "take", None, "a"), (P, "take", PIPE, None), (P, "take", PIPE, "a\n"), (P, "take", PIPE, "x" * 61), (P, "take", (), "a"), (P, "heard", PIPE, "a"),
    (P, "heard", 0, None), (P, "put", PIPE, None), (P, "put", (None,), "a"), (P, "broken", None, "a"), (P, "broken", PIPE, 1), (P, "read", "f", "a"),
    (P, "read", ("f",), "a"), (P, "read", ("F", (0, 0)), "a"), (P, "read", ("f", (0,)), "a"), (P, "read", ("f", (-2, 0)), "a"), (P, "read", ("f", (-1, 0, 0)), "a"),
    (P, "read", ("f", (0, -1)), "a"), (P, "read", (None, (-1, 0)), None), (P, "done", (None, (-1, 0)), "a"), (P, "write", None, "a"), (P, "write", "f", None),
    (P, "cut", "f", "a"), (P, "cut", None, None), (P, "make", "", "F"), (P, "make", "", ""), (P, "make", None, "f"), (P, "make", "", None), (P, "list", "", "ab"),
    (P, "list", "", ["A"]), (P, "list", None, []), (P, "find", "f", "other"), (P, "find", "/", None), (P, "find", "f", True), (P, "drop", PIPE, None),
    (P, "drop", (PIPE, "other"), None), (P, "drop", (PIPE, "put"), 1), (P, "drop", None, None), (P, "start", None, ()), (P, "start", (0,), ()),
    (P, "start", ((),), ()), (P, "start", (), None), (P, "start", (), ((),)), (P, "become", None, None), (P, "become", (PIPE,), None), (P, "become", (), 1),
    (P, "become", ((PIPE, "puts"),), None), (P, "wait", None, None), (P, "wait", (0, 0), 0), (P, "ask", (0, 0), None), (P, "ask", (0, 0), 256), (P, "ask", None, 0),
    (P, "over", None, None), (P, "over", None, -1), (P, "over", None, True), (P, "over", 0, 0), (P, "signal", (0, 0), "hup"), (P, "signal", None, "int"),
    (P, "trap", "kill", None), (P, "trap", None, None), (P, "trap", "int", 1), {0: P}, [P, "take"],
]


def parts(machine):
    """All of a machine but its row."""
    names = machine.processes()
    return (machine.files(), machine.shape(), [machine.table(name) for name in names], [machine.status(name) for name in names],
            {pipe: machine.content(pipe) for pipe in machine.shape()[0]})


class Misfits(unittest.TestCase):
    def fits(self, *row):
        return misfit(NET, list(row))

    def test_forms(self):
        for deed in FORMS:
            told = misfit(({PIPE: 1}, {}), [deed])
            self.assertTrue(is_alike(told, (0, "order")), deed)
            self.assertEqual(misfit(({PIPE: 1}, {}), changed([deed])), (0, "order"))
        for deed in NO_FORMS:
            self.assertTrue(is_alike(misfit(NET, [(P, "put", None, "a"), deed]), (1, "form")), deed)
        for thing in any_objects():
            if not isinstance(thing, (list, tuple)):
                self.assertTrue(is_alike(misfit(net=NET, row=thing), (0, "form")))
            elif thing:
                self.assertEqual(misfit(NET, thing), (0, "form"))
            self.assertEqual(misfit(NET, [thing]), (0, "form"))
        self.assertIsNone(misfit(NET, []))
        self.assertIsNone(misfit(NET, ()))

    def test_pipes(self):
        put, take = (P, "put", PIPE, "a"), (Q, "take", PIPE, "a")
        drop_put, drop_take = (P, "drop", (PIPE, "put"), None), (Q, "drop", (PIPE, "take"), None)
        over_p, over_q = (P, "over", None, 0), (Q, "over", None, 0)
        heard, broken = (Q, "heard", PIPE, None), (P, "broken", PIPE, "a")
        for row, told in [
            ([put, take], None), ([take], 0), ([put, put], 1), ([put, take, put, take], None), ([put, (Q, "take", PIPE, "b")], 1),
            ([(Q, "put", PIPE, "a")], 0), ([put, (P, "take", PIPE, "a")], 1), ([heard], 0), ([over_p, heard], None), ([drop_put, heard, heard], None),
            ([put, over_p, heard], 2), ([put, over_p, take, heard], None), ([over_p, (P, "put", None, "a")], 1), ([over_p, over_p], 1), ([broken], 0),
            ([over_q, broken], None), ([drop_take, broken], None), ([over_q, put], 1), ([over_q, broken, over_p], 2), ([over_q, broken, broken], 2),
            ([drop_put, drop_put], 1), ([drop_take, take], 1), ([drop_put, put], 1), ([(Q, "drop", (PIPE, "put"), None)], 0),
            ([(P, "become", ((PIPE, "put"),), None), heard], None), ([(P, "become", ((PIPE, "take"),), None)], 0), ([(P, "become", (), None), put], None),
            ([(P, "become", ((PIPE, "put"), (PIPE, "put")), None)], 0), ([((2,), "put", None, "a")], 0), ([(P, "heard", None, None), (P, "put", None, "x")], None),
            ([(P, "put", (1,), "a")], 0), ([over_q, (P, "wait", Q, None), (P, "ask", Q, 0), (P, "over", Q, 0)], None), ([(P, "wait", Q, None)], 0),
            ([over_q, (P, "ask", Q, 1)], 1), ([over_q, (P, "over", Q, 3)], 1), ([over_q, broken, (Q, "ask", P, 141)], 2), ([(P, "over", Q, 0)], 0),
            ([(P, "ask", (9,), 0)], 0), ([(P, "signal", (9, 9), "int"), (P, "trap", "term", None)], None),
            ([(P, "read", ("f", (0, 0)), "x"), (Q, "write", "f", "y"), (Q, "cut", "g", None), (P, "make", "", "f"), (P, "list", "", ["b", "a"]), (P, "find", "f", None),
              (P, "done", (None, (-1, 7)), None)], None),
        ]:
            self.assertEqual(misfit(NET, row), None if told is None else (told, "order"), row)
            self.assertEqual(misfit(changed(NET), changed(row)), None if told is None else (told, "order"))

    def test_broken_status(self):
        net = ({PIPE: 1}, {P: [(PIPE, "put")], Q: []})
        self.assertIsNone(misfit(net, [(P, "broken", PIPE, "a"), (Q, "ask", P, 141), (Q, "over", P, 141)]))
        self.assertEqual(misfit(net, [(P, "put", PIPE, "a")]), (0, "order"))

    def test_starts(self):
        child, pipe = (0, 0), (0, 0)
        net = ({PIPE: 2, pipe: 1}, {P: [(PIPE, "put"), (pipe, "take")], child: [(PIPE, "put"), (pipe, "put")], Q: [(PIPE, "take")]})
        start = (P, "start", (child,), (pipe,))
        put = (child, "put", pipe, "a")
        for row, told in [
            ([start, put, (P, "take", pipe, "a")], None), ([put, start], 0), ([(P, "take", pipe, "a"), start], 0), ([start, start], 1),
            ([start, (P, "drop", (pipe, "take"), None), (child, "broken", pipe, "a")], None), ([(P, "drop", (pipe, "take"), None)], 0),
            ([(P, "start", (), (pipe,)), (P, "drop", (pipe, "take"), None)], None), ([(P, "start", (child,), ())], 0), ([(P, "start", ((0, 1),), (pipe,))], 0),
            ([(P, "start", (child,), ((0, 1),))], 0), ([(Q, "start", (child,), (pipe,))], 0), ([(P, "drop", (PIPE, "put"), None), start], 1),
            ([start, (P, "drop", (PIPE, "put"), None), (child, "put", PIPE, "a"), (Q, "take", PIPE, "a")], None),
            ([start, (P, "over", None, 0), (Q, "heard", PIPE, None)], 2), ([start, (P, "over", None, 0), (child, "broken", pipe, "a"), (Q, "heard", PIPE, None)], None),
            ([(P, "start", (child, child), (pipe,))], 0), ([(P, "start", (), ()), start], None), ([start, (P, "wait", child, None)], 1),
            ([start, (child, "over", None, 3), (P, "ask", child, 3), (P, "over", child, 3)], None),
        ]:
            self.assertEqual(misfit(net, row), None if told is None else (told, "order"), row)
        # Whom no start of the row begins has begun, with what it has from others; what is new with its own start it has never had.
        self.assertIsNone(misfit(net, [(child, "put", PIPE, "a"), (child, "over", None, 0), (P, "ask", child, 0)]))
        self.assertIsNone(misfit(net, [(child, "broken", pipe, "a")]))
        self.assertEqual(misfit(net, [(child, "put", pipe, "a")]), (0, "order"))
        self.assertEqual(misfit(net, [(P, "heard", pipe, None)]), (0, "order"))
        self.assertEqual(misfit(({PIPE: 2}, {P: []}), [start]), (0, "order"))

    def test_each_deed_where_it_cannot_be_done(self):
        ahead = (P, "over", None, 0)
        for deed in FORMS:
            if deed[0] == P:
                self.assertEqual(misfit(NET, [ahead, deed]), (1, "order"))

    def test_rows_of_machines(self):
        maker = RandomMaker(21)
        for _ in range(300):
            machine = maker.machine()
            machine.run(maker.schedule(30), 80)
            net, row = machine.shape(), machine.deeds()
            self.assertIsNone(misfit(net, row))
            self.assertIsNone(misfit(changed(net), changed(row)))
            for at in range(len(row)):
                self.assertIsNone(misfit(net, row[:at]))

    def test_nets(self):
        for function in (misfit, counts, first_pair):
            for net in WRONG_NETS:
                with self.assertRaises(BadNet) as caught:
                    function(net, None)
                self.assertIs(caught.exception.net, net)
        self.assertIsNone(misfit([{PIPE: 1}, {P: [[[0], "put"], ([0], "take")]}], []))


class Counts(unittest.TestCase):
    def test_example(self):
        put, take = (P, "put", PIPE, "a"), (Q, "take", PIPE, "a")
        told = counts(NET, [put, take, put, (Q, "over", None, 0), (P, "broken", PIPE, "a")])
        self.assertTrue(is_alike(told, [{P: 1, Q: 0}, {P: 1, Q: 1}, {P: 2, Q: 1}, {P: 1, Q: 2}, {P: 3, Q: 2}]))
        self.assertTrue(is_alike(counts(changed(NET), changed([put, take])), [{P: 1, Q: 0}, {P: 1, Q: 1}]))
        self.assertTrue(is_new(counts(NET, [put, take])))
        self.assertEqual(counts(net=NET, row=[]), [])

    def directly(self, net, row):
        """The set of the pairs of indexes of which the former is directly ahead, as the point says it."""
        rooms, holds = net
        pairs, count = set(), len(row)
        for former in range(count):
            for later in range(former + 1, count):
                one, other = row[former], row[later]
                if one[0] == other[0] or (one[1] == "start" and other[0] in one[2]):
                    pairs.add((former, later))
                if one[1] in ("over", "broken") and other[1] in ("wait", "ask", "over") and other[2] == one[0]:
                    pairs.add((former, later))
        for pipe, room in rooms.items():
            puts = [at for at in range(count) if row[at][1:3] == ("put", pipe)]
            takes = [at for at in range(count) if row[at][1:3] == ("take", pipe)]
            pairs |= set(zip(puts, takes)) | set(zip(takes, puts[room:]))
        for name in holds:
            for sign in ("int", "kill", "term"):
                deed = (name, "over", None, 137) if sign == "kill" else (name, "trap", sign, None)
                had = set()
                for at in range(count):
                    if row[at][1:] == ("signal", name, sign):
                        traps = [later for later in range(at + 1, count) if row[later] == deed and later not in had]
                        if traps:
                            had.add(traps[0])
                            pairs.add((at, traps[0]))
        for later in range(count):
            _, word, pipe, _ = row[later]
            if word in ("heard", "broken") and pipe is not None:
                end = (pipe, "put" if word == "heard" else "take")
                for name in holds:
                    if end in holds[name]:
                        stops = [at for at in range(later) if row[at][0] == name and (
                            row[at][1] in ("over", "broken") or row[at][1:3] == ("drop", end) or (row[at][1] == "become" and end in row[at][2]))]
                        pairs |= {(at, later) for at in stops[:1]}
        return pairs

    def test_all_that_is_ahead(self):
        maker = RandomMaker(22)
        for _ in range(150):
            machine = maker.machine()
            machine.run(maker.schedule(30), 60)
            net, row = machine.shape(), machine.deeds()
            ahead = [{at} for at in range(len(row))]
            for former, later in sorted(self.directly(net, row), key=lambda pair: pair[1]):
                ahead[later] |= ahead[former]
            for at, told in enumerate(counts(net, row)):
                self.assertEqual(list(told), sorted(net[1]))
                found = {name: sum(row[one][0] == name for one in ahead[at]) for name in net[1]}
                self.assertEqual(told, found)

    def test_signals(self):
        child = (0, 0)
        net = ({}, {P: [], child: []})
        row = [(P, "start", (child,), ()), (P, "signal", child, "int"), (P, "signal", child, "int"), (child, "trap", "int", None),
               (P, "signal", child, "kill"), (child, "over", None, 137)]
        self.assertEqual([told[P] for told in counts(net, row)], [1, 2, 3, 2, 4, 4])
        row = [(P, "start", (child,), ()), (child, "trap", "int", None), (P, "signal", child, "int"), (child, "over", None, 137)]
        self.assertEqual([told[P] for told in counts(net, row)], [1, 1, 2, 1])

    def test_rows_that_do_not_fit(self):
        for row in [None, 1, [(Q, "take", PIPE, "a")], [None], "a", {}]:
            for function in (counts, first_pair):
                with self.assertRaises(BadRow) as caught:
                    function(NET, row)
                self.assertIs(caught.exception.row, row)


class Dependent(unittest.TestCase):
    def test_kinds(self):
        read, done = (P, "read", ("f", (0, 0)), "a"), (P, "done", ("f", (0, 0)), None)
        for one, other, told in [
            ((P, "put", PIPE, "a"), (Q, "put", PIPE, "b"), True), ((P, "put", PIPE, "a"), (Q, "broken", PIPE, "b"), True),
            ((P, "put", PIPE, "a"), (Q, "put", (1,), "b"), False), ((P, "put", None, "a"), (Q, "put", None, "b"), False),
            ((P, "put", PIPE, "a"), (Q, "take", PIPE, "a"), False), ((P, "take", PIPE, "a"), (Q, "heard", PIPE, None), True),
            ((P, "heard", None, None), (Q, "heard", None, None), False), ((P, "heard", PIPE, None), (Q, "heard", PIPE, None), True),
            (read, (Q, "read", ("f", (0, 0)), "b"), True), (read, (Q, "done", ("f", (0, 0)), None), True), (read, (Q, "read", ("f", (0, 1)), "b"), False),
            ((P, "read", (None, (-1, 0)), "a"), (Q, "read", (None, (-1, 0)), "b"), True), ((P, "read", (None, (-1, 0)), "a"), (Q, "write", "f", "b"), False),
            (read, (Q, "write", "f", "x"), True), (done, (Q, "cut", "f", None), True), (read, (Q, "write", "g", "x"), False), (read, (Q, "find", "f", "file"), False),
            ((P, "write", "f", "x"), (Q, "write", "f", "y"), True), ((P, "write", "f", "x"), (Q, "cut", "f", None), True),
            ((P, "write", "f", "x"), (Q, "find", "f", "file"), False), ((P, "write", "f", "x"), (Q, "list", "", ["f"]), False),
            ((P, "make", "", "f"), (Q, "find", "f", None), True), ((P, "make", "d", "f"), (Q, "find", "d/f", None), True),
            ((P, "make", "d", "f"), (Q, "list", "d", []), True), ((P, "make", "d", "f"), (Q, "list", "d/f", None), True), ((P, "make", "d", "f"), (Q, "list", "", ["d"]), False),
            ((P, "make", "", "f"), (Q, "list", "", []), True), ((P, "make", "", "f"), (Q, "write", "f", "a"), True), ((P, "make", "", "f"), (Q, "cut", "f", None), True),
            ((P, "make", "", "f"), (Q, "read", ("f", (0, 0)), "a"), True), ((P, "make", "", "f"), (Q, "make", "", "f"), True),
            ((P, "make", "", "f"), (Q, "make", "", "g"), False), ((P, "make", "d", "f"), (Q, "find", "d", "directory"), False),
            ((P, "make", "", "f"), (Q, "drop", (PIPE, "put"), None), False), ((P, "signal", Q, "int"), (Q, "over", None, 0), True),
            ((P, "signal", Q, "int"), (Q, "put", PIPE, "a"), True), ((P, "signal", (0, 0), "int"), (Q, "over", None, 0), False),
            ((P, "signal", (0, 0), "int"), (Q, "signal", (0, 0), "int"), False), ((P, "over", None, 0), (Q, "over", None, 0), False),
            ((P, "wait", Q, None), (Q, "over", None, 0), False), ((P, "drop", (PIPE, "take"), None), (Q, "put", PIPE, "a"), False),
            ((P, "start", (Q,), ()), (Q, "write", "f", "a"), False), ((P, "find", "f", None), (Q, "find", "f", None), False),
        ]:
            for former, latter in ((one, other), (other, one)):
                self.assertIs(dependent(former, latter), told, (one, other))
                self.assertIs(dependent(one=changed(former), other=changed(latter)), told)
                self.assertIs(dependent((P, *former[1:]), (P, *latter[1:])), False)

    def test_wrong(self):
        for deed in NO_FORMS:
            with self.assertRaises(BadDeed) as caught:
                dependent(deed, None)
            self.assertIs(caught.exception.deed, deed)
            with self.assertRaises(BadDeed) as caught:
                dependent(FORMS[0], deed)
            self.assertIs(caught.exception.deed, deed)
        for deed in FORMS:
            self.assertIs(dependent(deed, deed), False)


class Pairs(unittest.TestCase):
    def test_pairs(self):
        net = ({PIPE: 1}, {P: [(PIPE, "put")], Q: [(PIPE, "take")], (2,): [(PIPE, "take")]})
        write = lambda name: (name, "write", "f", "x")
        put, take = (P, "put", PIPE, "a"), lambda name: (name, "take", PIPE, "a")
        for row, told in [
            ([write(P), write(Q)], (0, 1)), ([write(P), put, take(Q), write(Q)], None), ([write(P), (Q, "find", "f", None), write(Q), write((2,))], (0, 2)),
            ([put, take(Q), put, take((2,))], (1, 3)), ([put, take(Q), (Q, "over", None, 0), put, take((2,))], (1, 4)), ([], None), ([put], None),
            ([write(Q), write((2,)), write(P)], (0, 1)),
        ]:
            told_pair = first_pair(net=net, row=row)
            self.assertTrue(is_alike(told_pair, told), row)

    def test_a_put_behind_one_that_it_waited_for(self):
        # The put of (2,) had its room by a take behind the put of P: ahead of it, yet not ahead of what it did before.
        net = ({PIPE: 1}, {P: [(PIPE, "put")], Q: [(PIPE, "take")], (2,): [(PIPE, "put")]})
        row = [(P, "put", PIPE, "a"), (Q, "take", PIPE, "a"), ((2,), "put", PIPE, "b")]
        self.assertEqual(counts(net, row)[2], {P: 1, Q: 1, (2,): 1})
        self.assertEqual(first_pair(net, row), (0, 2))
        child = (0, 0)
        net = ({PIPE: 1}, {P: [(PIPE, "put")], child: [(PIPE, "put")], Q: [(PIPE, "take")]})
        row = [(P, "put", PIPE, "a"), (P, "start", (child,), ()), (Q, "take", PIPE, "a"), (child, "put", PIPE, "b")]
        self.assertIsNone(first_pair(net, row))
        row = [(P, "start", (child,), ()), (P, "put", PIPE, "a"), (Q, "take", PIPE, "a"), (child, "put", PIPE, "b")]
        self.assertEqual(first_pair(net, row), (1, 3))

    def test_first_of_all(self):
        maker = RandomMaker(23)
        pairs = 0
        for _ in range(200):
            machine = maker.machine()
            machine.run(maker.schedule(30), 60)
            net, row = machine.shape(), machine.deeds()
            told, past = None, counts(net, row)

            def is_ahead(former, later):
                place = sum(deed[0] == row[former][0] for deed in row[:former + 1])
                return past[later][row[former][0]] >= place
            for later in range(len(row)):
                for former in range(later):
                    if told is None and dependent(row[former], row[later]):
                        over = [later]
                        if row[later][1] in ("put", "take", "heard", "broken"):
                            over = [at for at in range(later) if row[at][0] == row[later][0] or (row[at][1] == "start" and row[later][0] in row[at][2])]
                        if not any(is_ahead(former, at) for at in over):
                            told = (former, later)
            self.assertEqual(first_pair(net, row), told)
            pairs += told is not None
        self.assertGreater(pairs, 20)

    def test_other_orders(self):
        maker = RandomMaker(24)
        unlike = 0
        for _ in range(250):
            first = maker.machine()
            machine = first.copy()
            row = []
            shut = []
            for number in maker.schedule(40):
                able = machine.can()
                if able:
                    name = able[number % len(able)]
                    before = machine.table(name)
                    row.append(machine.step(name))
                    gone = {lead[1:] for lead in before.values()} - {lead[1:] for lead in machine.table(name).values()}
                    shut.append({end[0] for end in gone if end[1:] == ("take",)})
            net = machine.shape()
            past = counts(net, row)
            place = [sum(deed[0] == row[at][0] for deed in row[:at + 1]) for at in range(len(row))]
            bars = {later: {former for former in range(later) if past[later][row[former][0]] >= place[former] or dependent(row[former], row[later])
                            or (row[former][1] == "put" and row[former][2] in shut[later])} for later in range(len(row))}
            order = []
            while len(order) < len(row):
                order.append(maker.pick([at for at in bars if at not in order and bars[at] <= set(order)]))
            other = [row[at] for at in order]
            unlike += order != sorted(order)
            self.assertIsNone(misfit(net, other))
            self.assertEqual(counts(net, other), [past[at] for at in order])
            again = first.copy()
            self.assertTrue(is_alike([again.step(deed[0]) for deed in other], other))
            self.assertEqual(parts(again), parts(machine))
        self.assertGreater(unlike, 100)


if __name__ == "__main__":
    unittest.main()
