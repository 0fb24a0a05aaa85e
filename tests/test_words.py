"""Promises [14.1], [14.2], [14.6], [14.7], and the example [14.8]."""

import unittest

from everypipe.lateness import late_run
from everypipe.looking import looked_at
from everypipe.machines import Machine
from everypipe.refusals import BadNet, BadRow, BadWaits
from everypipe.words import is_word, word_of
from helper import any_objects, changed, is_alike
from made_machines import MachineMaker, is_straight_net, raised, telling
from second_story import SecondStory
from test_machines import RandomMaker

P, Q, R, S = (0,), (1,), (2,), (3,)
PIPE, LATTER = (0,), (1,)
NET = ({PIPE: 1}, {P: [(PIPE, "put")], Q: [(PIPE, "take")]})
put, take = (P, "put", PIPE, "a"), (Q, "take", PIPE, "a")
over_p, over_q, broken = (P, "over", None, 0), (Q, "over", None, 0), (P, "broken", PIPE, "a")
write = lambda name, path="f": (name, "write", path, "x")
WORDS = [("one",), ("open", P), ("waits", P), ("touch", P, 1), ("touch", P, 3), ("asked", P), ("heard", P, PIPE), ("room", P, PIPE), ("signal", P), ("rival", P),
         ("rival", Q), ("pair", 0, 1), ("pair", 1, 2)]


class Words(unittest.TestCase):
    def check(self, net, row, waits, *told):
        """The words are just these, the first one first; the one of none without any."""
        words = list(told) or [("one",)]
        self.assertTrue(is_alike(word_of(net, row, waits), words[0]), (word_of(net, row, waits), row))
        self.assertEqual(word_of(net=changed(net), row=changed(row), waits=changed(waits)), words[0])
        self.assertEqual(SecondStory(net, row, waits).words(), list(told))
        for word in WORDS + words:
            self.assertIs(is_word(net, row, waits, word), word in words, (word, row))
            self.assertIs(is_word(net=net, row=row, waits=waits, thing=changed(word)), word in words)

    def test_example(self):
        late = [put, take, (P, "put", PIPE, "b"), write(P), over_p, over_q]
        self.check(NET, late, {}, ("touch", P, 3))
        self.check(NET, [deed for deed in late if deed[1] != "write"], {})

    def test_example_of_machines(self):
        taker = (telling([("take", 0)]), {0: ("pipe", PIPE, "take")})
        for wishes, told in [([("put", 3, "x")], ("touch", P, 3)), ([], ("one",))]:
            holder = (telling([("put", 1, "a"), ("put", 1, "b"), *wishes]), {1: ("pipe", PIPE, "put"), 3: ("file", "f", "add")})
            machine = Machine({"f": []}, [holder, taker], {(): 1})
            word, net, row, waits = looked_at(machine, 99)
            self.assertTrue(is_alike(word, told))
            self.assertEqual([deed[:2] for deed in row], [(P, "put"), (Q, "take"), (P, "put")] + [(P, "write")] * len(wishes) + [(P, "over"), (Q, "over")])
            machine.run([0, 0, 1], 99)
            self.assertEqual((machine.files(), machine.status(P)), ({"f": []}, 141))
        # If somebody asks it: (0,) starts both, and asks the first one.
        rows = [(telling([("put", 1, "a"), ("put", 1, "b")]), {1: ("new", 0, "put")}), (taker[0], {0: ("new", 0, "take")})]
        machine = Machine({}, [(telling([("start", rows, {}), ("ask", 0)]), {})], {(): 1})
        self.assertEqual(looked_at(machine, 99)[0], ("asked", (0, 0)))

    def test_one(self):
        for row in ([], [over_p], [put, take, over_p, over_q], [put, take, over_p, (Q, "heard", PIPE, None), over_q], [put, take, put, over_q, broken]):
            waits = {name: ("take", PIPE) for name in (P, Q) if not any(deed[0] == name and deed[1] in ("over", "broken") for deed in row)}
            self.check(NET, row, {name: ("wait", (0, 9)) for name in waits})

    def test_open(self):
        net = ({PIPE: 1}, {P: [(PIPE, "put")], Q: [(PIPE, "take")], R: []})
        self.check(net, [over_q, broken], {R: ("wait", P)}, ("open", Q))
        # Had the line to come first, there was no room.
        self.check(NET, [put, over_q, broken], {})
        self.check(({PIPE: 2}, NET[1]), [put, over_q, broken], {}, ("open", Q))
        # Q's take gave the room, and it stops behind that; by its stop ahead of it there is none.
        self.check(NET, [put, take, over_q, broken], {}, ("open", Q))
        two = ({PIPE: 1}, {P: [(PIPE, "put")], Q: [(PIPE, "take")], R: [(PIPE, "take")], S: [(PIPE, "take")]})
        self.check(two, [put, over_q, (R, "take", PIPE, "a"), (R, "over", None, 0), (S, "over", None, 0), broken], {}, ("open", Q), ("open", R), ("open", S))
        # Who stopped ahead of what the broken one did before is no such one.
        child = ({PIPE: 1}, {P: [(PIPE, "put"), (PIPE, "take")], (0, 0): [(PIPE, "take")]})
        row = [(P, "start", ((0, 0),), ()), ((0, 0), "over", None, 0), (P, "wait", (0, 0), None), (P, "drop", (PIPE, "take"), None), broken]
        self.check(child, row, {})
        self.check(child, [row[0], row[1], row[3], row[4]], {}, ("open", (0, 0)))

    def test_open_of_its_own_process(self):
        net = ({PIPE: 1}, {P: [(PIPE, "put"), (PIPE, "take")]})
        self.check(net, [(P, "drop", (PIPE, "take"), None), broken], {})

    def test_waits(self):
        net = ({PIPE: 2, LATTER: 1}, {P: [(PIPE, "put"), (LATTER, "take")], Q: [(PIPE, "take")], R: [(LATTER, "put")]})
        self.check(net, [put, over_q], {P: ("take", LATTER), R: ("wait", P)}, ("waits", P))

    def test_touch(self):
        net = ({PIPE: 2, (0, 0): 1}, {P: [(PIPE, "put")], Q: [(PIPE, "take")], (0, 0): []})
        for deed in [write(P), (P, "cut", "f", None), (P, "make", "", "f"), (P, "start", ((0, 0),), ()), (P, "signal", (0, 0), "int")]:
            waits = {(0, 0): ("take", PIPE)}
            ahead = [] if deed[1] == "start" else [(P, "start", ((0, 0),), ())]
            row = [*ahead, put, deed, over_p, over_q]
            self.check(net, row, waits, ("touch", P, len(ahead) + 2))
            self.check(net, [*ahead, deed, put, over_p, over_q], waits)
        for deed in [(P, "find", "f", None), (P, "list", "", []), (P, "put", None, "x"), (P, "read", ("f", (0, 0)), "x"), (P, "done", (None, (0, 0)), None), (P, "become", (), None)]:
            self.check(NET, [put, deed, over_p, over_q], {})
        self.check(NET, [put, write(P, "g"), write(P), (P, "find", "f", None), over_p, over_q], {}, ("touch", P, 2), ("touch", P, 3))

    def test_asked(self):
        child, inner = (0, 0), (0, 0, 0)
        net = ({PIPE: 2}, {P: [(PIPE, "put")], child: [(PIPE, "put")], inner: [(PIPE, "put")], Q: [(PIPE, "take")]})
        begin = [(P, "start", (child,), ()), (child, "start", (inner,), ()), (P, "drop", (PIPE, "put"), None), (child, "drop", (PIPE, "put"), None)]
        end = [(P, "ask", child, 5), over_p]
        said = (inner, "put", PIPE, "a")
        # What the child is over with is its own child's status, which can be 141.
        self.check(net, [*begin, said, (inner, "over", None, 5), over_q, (child, "over", inner, 5), *end], {}, ("asked", child))
        self.check(net, [*begin, said, (inner, "over", None, 5), over_q, (child, "ask", inner, 5), (child, "over", None, 5), *end], {}, ("asked", inner))
        self.check(net, [*begin, said, (inner, "over", None, 5), over_q, (child, "wait", inner, None), (child, "over", None, 5), *end], {})
        self.check(net, [*begin, said, (inner, "over", None, 141), over_q, (child, "over", inner, 141), (P, "ask", child, 141), over_p], {})
        self.check(net, [*begin, (inner, "over", None, 5), over_q, (child, "over", inner, 5), *end], {})
        self.check(net, [*begin[:3], (child, "put", PIPE, "a"), (child, "over", None, 5), *end, (inner, "over", None, 0), over_q], {}, ("asked", child))
        self.check(net, [*begin[:3], (inner, "put", PIPE, "b"), (inner, "over", None, 5), (child, "put", PIPE, "a"), (child, "over", inner, 5), *end, over_q], {},
                   ("asked", child), ("pair", 3, 5))

    def test_heard(self):
        net = ({PIPE: 2, LATTER: 2}, {P: [(PIPE, "put"), (LATTER, "put")], Q: [(PIPE, "take")], R: [(LATTER, "take")]})
        other = lambda line: (P, "put", LATTER, line)
        got = lambda line: (R, "take", LATTER, line)
        over_r, heard = (R, "over", None, 0), (R, "heard", LATTER, None)
        self.check(net, [put, other("b"), got("b"), over_p, heard, over_q, over_r], {}, ("heard", P, LATTER))
        self.check(net, [put, other("b"), got("b"), over_p, over_q, over_r], {}, ("heard", P, LATTER))
        # Ahead of it, or of no line that is taken, or by who takes from the pipe itself, nothing is heard.
        self.check(net, [other("b"), put, got("b"), over_p, heard, over_q, over_r], {})
        self.check(net, [put, over_p, heard, over_q, over_r], {})
        self.check(net, [put, other("b"), over_p, over_q, over_r], {})
        both = ({PIPE: 2, LATTER: 2}, {P: [(PIPE, "put"), (LATTER, "put")], R: [(PIPE, "take"), (LATTER, "take")]})
        self.check(both, [put, other("b"), got("b"), over_p, over_r], {})
        drop = (R, "drop", (PIPE, "take"), None)
        self.check(both, [put, other("b"), drop, got("b"), over_p, over_r], {}, ("heard", P, LATTER))
        # The line is taken by who takes from the pipe itself, the end heard behind that.
        self.check(both, [put, other("b"), got("b"), over_p, drop, over_r], {})
        self.check(both, [put, other("b"), got("b"), over_p, heard, drop, over_r], {})
        # (2,) may be broken ahead of all that it takes; then (3,), who does not take from the pipe, hears the end earlier.
        third = (2,)
        more = ({PIPE: 1, LATTER: 1, third: 1}, {P: [(PIPE, "put"), (LATTER, "put")], Q: [(third, "take")], R: [(PIPE, "take"), (LATTER, "take"), (third, "put")], S: [(LATTER, "take")]})
        row = [(R, "put", third, "c"), put, other("b"), got("b"), over_p, (S, "heard", LATTER, None), (S, "over", None, 0), over_r, over_q]
        self.check(more, row, {}, ("heard", P, LATTER), ("pair", 3, 5))
        self.check(more, row[:5] + row[6:], {})

    def test_room(self):
        net = ({PIPE: 1, LATTER: 1}, {P: [(PIPE, "put")], Q: [(PIPE, "take"), (LATTER, "put")], R: [(LATTER, "take")], S: [(PIPE, "take")]})
        row = [(Q, "put", LATTER, "c"), put, take, put, (R, "over", None, 0), (S, "take", PIPE, "a"), (S, "over", None, 0), over_q, over_p]
        told = word_of(net, row, {})
        self.assertTrue(is_word(net, row, {}, ("room", P, PIPE)))
        self.assertEqual(told, next(word for word in SecondStory(net, row, {}).words()))
        alone = ({PIPE: 1, LATTER: 1}, {P: [(PIPE, "put")], Q: [(PIPE, "take"), (LATTER, "put")], R: [(LATTER, "take")]})
        self.assertFalse(is_word(alone, [deed for deed in row if deed[0] != S], {}, ("room", P, PIPE)))
        self.assertFalse(is_word(({PIPE: 2, LATTER: 1}, net[1]), row, {}, ("room", P, PIPE)))

    def test_signal(self):
        child = (0, 0)
        net = ({}, {P: [], child: []})
        start, end = (P, "start", (child,), ()), (P, "over", None, 0)
        for sign, answer in [("int", (child, "trap", "int", None)), ("term", (child, "trap", "term", None)), ("kill", (child, "over", None, 137))]:
            rest = [] if sign == "kill" else [(child, "over", None, 0)]
            row = [start, (P, "signal", child, sign), answer, *rest, end]
            self.check(net, row, {}, ("signal", child))
        self.check(net, [start, (P, "signal", child, "int"), (child, "over", None, 137), end], {}, ("pair", 1, 2))
        self.check(net, [start, (child, "trap", "int", None), (child, "over", None, 0), end], {})
        self.check(net, [start, (child, "over", None, 0), (P, "wait", child, None), (P, "signal", child, "int"), end], {})

    def test_rival(self):
        net = ({PIPE: 1}, {P: [(PIPE, "put")], Q: [(PIPE, "put")], R: [(PIPE, "take")]})
        self.check(net, [put], {P: ("wait", R), Q: ("put", PIPE), R: ("wait", P)}, ("rival", Q))
        self.check(net, [put], {P: ("put", PIPE), Q: ("wait", P), R: ("wait", P)})
        # What (1,) put is ahead of what (0,) did last.
        told = ({PIPE: 1, LATTER: 1}, {P: [(PIPE, "put"), (LATTER, "take")], Q: [(PIPE, "put")], R: [(PIPE, "take"), (LATTER, "put")]})
        row = [(Q, "put", PIPE, "b"), (R, "take", PIPE, "b"), (R, "put", LATTER, "c"), (P, "take", LATTER, "c"), put]
        waits = {P: ("put", PIPE), Q: ("wait", P), R: ("wait", P)}
        self.check(told, row, waits)
        self.check(told, [row[0], row[1], put, row[2], row[3]], waits, ("pair", 0, 2))
        self.check(told, row[:2] + [put], waits, ("pair", 0, 2))
        self.check(({PIPE: 2, LATTER: 1}, told[1]), [row[0], put], waits, ("rival", P), ("pair", 0, 1))
        takers = ({PIPE: 1}, {P: [(PIPE, "put")], Q: [(PIPE, "take")], R: [(PIPE, "take")]})
        self.check(takers, [put, take], {P: ("wait", R), Q: ("wait", P), R: ("take", PIPE)}, ("rival", R))
        self.check(takers, [put, take], {P: ("wait", R), Q: ("take", PIPE), R: ("wait", P)})

    def test_pairs(self):
        net = ({}, {P: [], Q: [], R: []})
        waits = {name: ("wait", P) for name in (P, Q, R)}
        self.check(net, [write(P), write(Q)], waits, ("pair", 0, 1))
        self.check(net, [write(Q), (P, "find", "g", None), write(R), write(P, "f")], waits, ("pair", 0, 2), ("pair", 0, 3), ("pair", 2, 3))
        # By the sure past of the end of a child a write behind its cut is not surely ahead.
        child = (0, 0)
        net = ({PIPE: 2}, {P: [(PIPE, "put")], child: [(PIPE, "put")], Q: [(PIPE, "take")]})
        row = [(P, "start", (child,), ()), (P, "drop", (PIPE, "put"), None), (child, "put", PIPE, "a"), (child, "read", ("f", (0, 0)), "x"), (child, "over", None, 0),
               (P, "wait", child, None), write(P), over_p, over_q]
        self.check(net, row, {}, ("pair", 3, 6))
        for at, other in [(3, 6), (6, 3), (3, 7), (0, 1), (3, 9), (-1, 6), (3, True), (3, None), ("3", 6)]:
            self.assertIs(is_word(net, row, {}, ("pair", at, other)), (at, other) == (3, 6))

    def test_their_order(self):
        net = ({PIPE: 2}, {P: [(PIPE, "put")], Q: [(PIPE, "take")], R: []})
        row = [write(R), put, write(P), over_p, over_q]
        self.check(net, row, {R: ("wait", P)}, ("touch", P, 2), ("pair", 0, 2))

    def test_no_words(self):
        row = [put, take, put, write(P), over_p, over_q]
        for thing in any_objects() + [("touch",), ("touch", P), ("touch", P, 4, 1), ("touch", (True,), 4), ("touch", P, "4"), ("touch", Q, 4), ("pair", 3), ("one", 1), "one",
                                      ("touch", 0, 4), {"touch": 1}]:
            self.assertIs(is_word(NET, row, {}, thing), False)
            self.assertIs(is_word(NET, [], {P: (1, 2), Q: (1, 2)}, thing), False)
        self.assertIs(is_word(NET, row, {}, ["touch", [0], 3]), True)
        self.assertIs(is_word(NET, row, {}, ("touch", P, 3)), True)

    def test_as_told_straight(self):
        kinds = {}
        for maker, many in ((MachineMaker(51), 700), (RandomMaker(53), 150)):
            for _ in range(many):
                machine = maker.machine() if many == 150 or maker.chance(30) else Machine(*maker.net())
                if maker.chance(20):
                    machine.run(maker.schedule(), 70)
                else:
                    for deed in late_run(machine, 70):
                        machine.step(deed[0])
                net, row = machine.shape(), machine.deeds()
                waits = {name: machine.waiting(name) or ("wait", (0, 9)) for name in machine.left()}
                words = SecondStory(net, row, waits).words()
                self.assertEqual(word_of(net, row, waits), words[0] if words else ("one",))
                self.assertIs(is_word(net, row, waits, ("one",)), words == [])
                for word in words + WORDS[1:]:
                    self.assertIs(is_word(net, row, waits, word), word in words)
                    kinds[word[0]] = kinds.get(word[0], 0) + (word in words)
        self.assertTrue(all(kinds[kind] > 0 for kind in ("open", "waits", "touch", "asked", "heard", "signal", "rival", "pair")), kinds)

    def test_straight_rows(self):
        maker = MachineMaker(54)
        seen = set()
        for _ in range(400):
            machine = Machine(*maker.straight()) if maker.chance(70) else Machine(*maker.with_parent(maker.straight()))
            told = looked_at(machine, 120)
            if told != ("many",) and is_straight_net(told[1], told[2]):
                self.assertNotIn(told[0][0], ("open", "heard", "room", "waits"))
                seen.add(told[0][0])
        for _ in range(150):
            told = looked_at(maker.script_machine(), 300)
            if told != ("many",) and is_straight_net(told[1], told[2]):
                self.assertNotIn(told[0][0], ("open", "heard", "room", "waits"))
        self.assertEqual(seen, {"one", "touch", "asked", "pair"})

    def test_pairs_of_anything(self):
        for thing in any_objects():
            for wait in [(thing, thing), ["take", thing], ("put", [thing]), (thing, PIPE)]:
                self.assertEqual(word_of(NET, [over_p], {Q: wait}), ("one",))

    def test_wrong(self):
        for function in (word_of, lambda *passed: is_word(*passed, None)):
            for thing in any_objects():
                self.assertIs(raised(BadNet, function, thing, None, None).net, thing)
                if thing not in ([], ()):
                    self.assertIs(raised(BadRow, function, NET, thing, None).row, thing)
            for waits in any_objects() + [{P: ("take", PIPE)}, {Q: ("take", PIPE)}, {P: ("take", PIPE), Q: "take"}, {P: ("take", PIPE), Q: ("take",)},
                                          {P: ("take", PIPE), R: ("take", PIPE)}, {P: ("take", PIPE), (True,): ("take", PIPE)}, {P: None, Q: None},
                                          {P: ("take", PIPE, 1), Q: ("take", PIPE)}, {P: ("a", 1), Q: ("a", 1), R: ("a", 1)}]:
                self.assertIs(raised(BadWaits, function, NET, [], waits).waits, waits)
            self.assertIs(raised(BadWaits, function, NET, [over_p], {P: ("a", 1), Q: ("a", 1)}).waits.__class__, dict)


if __name__ == "__main__":
    unittest.main()
