"""Promises [6.4], [6.5], [6.6], and of [6.8] what alone, needs_of and program_of tell."""

import unittest

from everypipe.actors import actor_of
from everypipe.alone import alone, needs_of, outs_of
from everypipe.errors import BadDeeds, BadDescriptor, BadMost, BadPiece, BadProgram, BadStreams
from everypipe.givens import plain_of, program_of
from everypipe.programs import Program
from everypipe.programtexts import read_program
from helper import Maker, any_objects, changed, is_alike, is_new

EXAMPLE = "take 0 a else 3\nput 1 a 'x'\njump 0\n"
WRONG_STREAMS = [None, 1, [], "a", (), {32: []}, {-1: []}, {True: []}, {"0": []}, {0: None}, {0: "ab"}, {0: ["a", 1]},
                 {0: ["a\n"]}, {0: ["%"]}, {0: ["x" * 61]}, {0: []   , 1: {}}, {None: []}]
WRONG_NUMBERS = [None, -1, True, False, "1", [1], 1.5]
WRONG_PIECES = [None, 1, "cat", [], ("cat", 1), ("other",), ("tee",), ("tee", 2), ("tee", 32), ("tee", True), ("tee", "3"),
                ("cut", 0), ("cut", -1), ("cut", None), ("cut",), ("uniq", 1), ("grep", "a"), ("grep", ("of", "ba")), ("grep",),
                ("head", -1), ("head", True), ("head",), ("head", 1, 2), ("tail", "1"), ("sort", 0), ("wc", None), ("paste", 1),
                ("paste",), ("seq", 1), ("seq", 1, "2"), ("seq", True, 2), ("seq", 1, 2, 3), ("yes",), ("yes", 1), ("yes", "a\n"),
                ("yes", "x" * 61), ("true", 1), ("false", 0), (["cat"],), {"cat": 1}]


def texts_of(told):
    return [deed[2] for deed in told if deed[0] == "put"]


def second_alone(program, streams, most):
    """As alone, told by the program's actor and its answers."""
    actor, answers, told, taken, closed = actor_of(program), [], [], {}, set()
    while len(told) < most:
        wish = actor(answers)
        told.append(wish)
        if wish[0] == "over":
            break
        n = wish[1]
        answers.append(None)
        if wish[0] == "close":
            closed.add(n)
        elif wish[0] == "put" and n in closed:
            told[-1] = ("lost", n, wish[2])
        elif wish[0] == "take":
            lines = [] if n in closed else list(streams.get(n, []))[taken.get(n, 0):]
            taken[n] = taken.get(n, 0) + 1
            told[-1] = ("take", n, lines[0]) if lines else ("end", n)
            answers[-1] = lines[0] if lines else None
    return told


class ProgramMaker(Maker):
    def part(self):
        return self.pick([("text", self.line(3)), ("line", self.pick("ab")), ("count", self.pick("ij"))])

    def program(self):
        many = self.random.randint(0, 7)
        rows = []
        for _ in range(many):
            at = self.random.randint(0, many)
            rows.append(self.pick([
                ("take", self.pick([0, 0, 3]), self.pick("ab"), at), ("take", self.pick([0, 1]), self.pick("ab"), at),
                ("put", self.pick([1, 1, 4]), self.some(self.part, 0, 2)), ("put", self.pick([1, 3]), self.some(self.part, 0, 2)),
                ("close", self.pick([0, 1, 3])), ("end", self.pick([0, 7])), ("count", "i", 1), ("less", "i", 3, at),
                ("same", "a", "b", at), ("jump", at), ("keep", [("line", "a")]), ("first", "b", at)]))
        return Program(rows)

    def streams(self):
        return {n: self.some(lambda: self.line(3), 0, 4) for n in self.pick([[], [0], [0, 3], [3, 1, 0]])}

    def piece(self, words=()):
        return self.pick([
            ("cat",), ("tee", self.pick([3, 5])), ("cut", self.pick([1, 2])), ("uniq",), ("grep", self.pattern(2)),
            ("head", self.pick([0, 1, 2, 100])), ("tail", self.pick([0, 1, 2, 100])), ("sort",), ("wc",),
            ("paste", self.pick([3, 5])), ("seq", self.pick([-2, 0, 3]), self.pick([-3, 0, 5, 12])), ("true",), ("false",)])


class Alone(unittest.TestCase):
    def test_example(self):
        program = read_program(EXAMPLE)
        told = alone(program, {0: ["u", "v"]}, 9)
        self.assertTrue(is_alike(told, [("take", 0, "u"), ("put", 1, "ux"), ("take", 0, "v"), ("put", 1, "vx"), ("end", 0),
                                        ("over", 0)]))
        self.assertTrue(is_alike(needs_of(told, 1), [{0: 1}, {0: 2}]))
        self.assertTrue(is_alike(alone(program_of(("head", 1)), {0: ["u", "v"]}, 9),
                                 [("take", 0, "u"), ("put", 1, "u"), ("over", 0)]))
        self.assertTrue(is_alike(outs_of(told), {1: ["ux", "vx"]}))

    def test_streams_that_are_no_key(self):
        cat = program_of(("cat",))
        self.assertEqual(alone(cat, {}, 9), [("end", 0), ("over", 0)])
        self.assertEqual(alone(cat, {3: ["a"]}, 9), [("end", 0), ("over", 0)])
        self.assertEqual(alone(cat, {0: ()}, 9), [("end", 0), ("over", 0)])

    def test_closed_ones(self):
        program = Program([("close", 0), ("take", 0, "a", 2), ("put", 1, [("text", "x")]), ("close", 1), ("close", 1),
                           ("put", 1, [("text", "y")]), ("put", 2, []), ("close", 7), ("take", 1, "b", 9), ("end", 3)])
        told = alone(program, {0: ["u"], 1: ["w"]}, 20)
        self.assertEqual(told, [("close", 0), ("end", 0), ("put", 1, "x"), ("close", 1), ("close", 1), ("lost", 1, "y"),
                                ("put", 2, ""), ("close", 7), ("end", 1), ("over", 3)])
        self.assertTrue(is_alike(outs_of(told), {1: ["x"], 2: [""]}))
        self.assertTrue(is_alike(needs_of(told, 1), [{0: 1}]))
        self.assertTrue(is_alike(needs_of(told, 2), [{0: 1}]))
        self.assertEqual(needs_of(told, 3), [])

    def test_ends_again_and_most(self):
        program = Program([("take", 5, "a", 1), ("take", 5, "a", 2), ("jump", 0)])
        told = alone(program, {5: ["u"]}, 4)
        self.assertEqual(told, [("take", 5, "u"), ("end", 5), ("end", 5), ("end", 5)])
        for most in range(5):
            self.assertEqual(alone(program=program, streams={5: ["u"]}, most=most), told[:most])
        self.assertEqual(alone(Program([("jump", 0)]), {}, 3), [("over", 254)])
        self.assertEqual(alone(Program([]), {}, 0), [])

    def test_many_programs(self):
        maker = ProgramMaker(1)
        for _ in range(400):
            program, streams, most = maker.program(), maker.streams(), maker.random.randrange(25)
            told = alone(program, streams, most)
            self.assertTrue(is_alike(told, second_alone(program, streams, most)))
            self.assertTrue(is_alike(alone(program, changed(streams), most), told))
            self.assertTrue(is_new(told, streams))
            outs = outs_of(told)
            self.assertEqual(list(outs), sorted(outs))
            for n in range(6):
                self.assertEqual(outs.get(n, []), [deed[2] for deed in told if deed[0] == "put" and deed[1] == n])
                needs = needs_of(told, n)
                self.assertEqual(len(needs), len(outs.get(n, [])))
                places = [at for at, deed in enumerate(told) if deed[0] == "put" and deed[1] == n]
                for need, at in zip(needs, places):
                    asked = [deed[1] for deed in told[:at] if deed[0] in ("take", "end")]
                    self.assertTrue(is_alike(need, {m: asked.count(m) for m in sorted(set(asked))}))

    def test_a_function_of_what_is_read(self):
        maker = ProgramMaker(2)
        for _ in range(300):
            program, streams = maker.program(), maker.streams()
            other = {n: lines[:maker.random.randrange(4)] + maker.some(maker.line, 0, 2) for n, lines in streams.items()}
            one, two = alone(program, streams, 30), alone(program, other, 30)
            unlike = [at for at in range(min(len(one), len(two))) if one[at] != two[at]]
            if not unlike:
                self.assertEqual(one, two)
                continue
            here, there = one[unlike[0]], two[unlike[0]]
            self.assertIn(here[0], ("take", "end"))
            self.assertIn(there[0], ("take", "end"))
            self.assertEqual(here[1], there[1])

    def test_owed_to_the_needs_alone(self):
        maker = ProgramMaker(3)
        for _ in range(200):
            program, streams = maker.program(), maker.streams()
            told = alone(program, streams, 25)
            for n in (1, 3, 4):
                for k, need in enumerate(needs_of(told, n)):
                    fewer = {m: lines[:need.get(m, 0)] for m, lines in streams.items()}
                    self.assertEqual(outs_of(alone(program, fewer, 60)).get(n, [])[:k + 1], outs_of(told)[n][:k + 1])

    def test_wrong(self):
        program = Program([])
        for thing in any_objects():
            if not isinstance(thing, Program):
                with self.assertRaises(BadProgram) as caught:
                    alone(thing, None, None)
                self.assertIs(caught.exception.program, thing)
        for streams in WRONG_STREAMS:
            with self.assertRaises(BadStreams) as caught:
                alone(program, streams, None)
            self.assertIs(caught.exception.streams, streams)
        for most in WRONG_NUMBERS:
            with self.assertRaises(BadMost) as caught:
                alone(program, {}, most)
            self.assertIs(caught.exception.most, most)

    def test_wrong_deeds(self):
        for thing in [None, 1, "over", {}, True]:
            for function in (outs_of, lambda deeds: needs_of(deeds, None)):
                with self.assertRaises(BadDeeds) as caught:
                    function(thing)
                self.assertEqual(caught.exception.index, 0)
        right = [("take", 0, "a"), ["end", 31], ("put", 1, ""), ["lost", 2, "b"], ("close", 3)]
        self.assertTrue(is_alike(outs_of(tuple(right)), {1: [""]}))
        for wrong in [None, "over", (), ("over",), ("over", 256), ("over", True), ("over", 0, 0), ("take", 0), ("take", 0, None),
                      ("take", 32, "a"), ("take", True, "a"), ("end", 0, None), ("put", 0, "x" * 61), ("put", 0, "\n"), ("close",),
                      ("close", -1), ("lost", 1), ("other", 1), ("jump", 1), {}, 7]:
            for function in (outs_of, lambda deeds: needs_of(deeds, 40)):
                with self.assertRaises(BadDeeds) as caught:
                    function([*right, wrong, None])
                self.assertEqual(caught.exception.index, 5)
        with self.assertRaises(BadDeeds) as caught:
            outs_of([("over", 0), ("over", 0)])
        self.assertEqual(caught.exception.index, 1)
        for n in [None, -1, 32, True, "0", []]:
            with self.assertRaises(BadDescriptor) as caught:
                needs_of(right, n)
            self.assertIs(caught.exception.n, n)
        self.assertEqual(needs_of(deeds=right, n=1), [{0: 1, 31: 1}])


class Givens(unittest.TestCase):
    def deeds(self, piece, streams, most=400):
        for given in (piece, changed(piece)):
            program = program_of(given)
            self.assertIsInstance(program, Program)
            told = alone(program, streams, most)
        return told

    def test_cat_tee_cut_uniq(self):
        lines = {0: ["a b", "a b", " c  d "]}
        self.assertEqual(self.deeds(("cat",), lines), [("take", 0, "a b"), ("put", 1, "a b")] * 2
                         + [("take", 0, " c  d "), ("put", 1, " c  d "), ("end", 0), ("over", 0)])
        self.assertEqual(self.deeds(("tee", 3), {0: ["u"]}), [("take", 0, "u"), ("put", 1, "u"), ("put", 3, "u"), ("end", 0),
                                                              ("over", 0)])
        self.assertEqual(texts_of(self.deeds(("cut", 2), lines)), ["b", "b", "d"])
        self.assertEqual(texts_of(self.deeds(("cut", 3), lines)), ["", "", ""])
        self.assertEqual(self.deeds(("uniq",), lines), [("take", 0, "a b"), ("put", 1, "a b"), ("take", 0, "a b"),
                                                        ("take", 0, " c  d "), ("put", 1, " c  d "), ("end", 0), ("over", 0)])
        self.assertEqual(texts_of(self.deeds(("uniq",), {0: ["", "", "a", ""]})), ["", "a", ""])

    def test_grep(self):
        pattern = ("row", ("of", "b"), ("often", ("of", "b")))
        self.assertEqual(self.deeds(("grep", pattern), {0: ["a", "abba", "b"]}),
                         [("take", 0, "a"), ("take", 0, "abba"), ("put", 1, "abba"), ("take", 0, "b"), ("put", 1, "b"),
                          ("end", 0), ("over", 0)])
        self.assertEqual(self.deeds(("grep", pattern), {0: ["a"]}), [("take", 0, "a"), ("end", 0), ("over", 1)])
        self.assertEqual(self.deeds(("grep", ("none",)), {0: [""]})[-1], ("over", 1))
        self.assertEqual(self.deeds(("grep", ("empty",)), {0: [""]})[-1], ("over", 0))

    def test_heads_and_tails(self):
        lines = {0: ["a", "b", "c"]}
        self.assertEqual(self.deeds(("head", 0), lines), [("over", 0)])
        self.assertEqual(self.deeds(("head", 2), lines), [("take", 0, "a"), ("put", 1, "a"), ("take", 0, "b"), ("put", 1, "b"),
                                                          ("over", 0)])
        self.assertEqual(self.deeds(("head", 4), lines)[-2:], [("end", 0), ("over", 0)])
        takes = [("take", 0, line) for line in "abc"] + [("end", 0)]
        self.assertEqual(self.deeds(("tail", 0), lines), takes + [("over", 0)])
        self.assertEqual(self.deeds(("tail", 2), lines), takes + [("put", 1, "b"), ("put", 1, "c"), ("over", 0)])
        self.assertEqual(self.deeds(("tail", 3), lines), takes + [("put", 1, line) for line in "abc"] + [("over", 0)])
        self.assertEqual(self.deeds(("tail", 100), lines), takes + [("put", 1, line) for line in "abc"] + [("over", 0)])

    def test_all_lines_first(self):
        lines = {0: ["b", "a", "B", "b"]}
        takes = [("take", 0, line) for line in lines[0]] + [("end", 0)]
        self.assertEqual(self.deeds(("sort",), lines), takes + [("put", 1, line) for line in ["B", "a", "b", "b"]] + [("over", 0)])
        self.assertEqual(self.deeds(("wc",), lines), takes + [("put", 1, "4"), ("over", 0)])
        self.assertEqual(self.deeds(("wc",), {}), [("end", 0), ("put", 1, "0"), ("over", 0)])
        many = {0: [str(number) for number in range(203, 0, -1)]}
        self.assertEqual(texts_of(self.deeds(("sort",), many, 900)), sorted(many[0][:200]))

    def test_paste(self):
        told = self.deeds(("paste", 4), {0: ["a", "b", "x" * 60], 4: ["u"]})
        self.assertEqual(told, [("take", 0, "a"), ("take", 4, "u"), ("put", 1, "a u"), ("take", 0, "b"), ("end", 4),
                                ("put", 1, "b "), ("take", 0, "x" * 60), ("end", 4), ("put", 1, "x" * 60), ("end", 0), ("over", 0)])
        self.assertEqual(self.deeds(("paste", 3), {0: ["a"], 3: ["u", "v"]}),
                         [("take", 0, "a"), ("take", 3, "u"), ("put", 1, "a u"), ("end", 0), ("over", 0)])

    def test_without_lines(self):
        self.assertEqual(self.deeds(("seq", -1, 1), {}), [("put", 1, "-1"), ("put", 1, "0"), ("put", 1, "1"), ("over", 0)])
        self.assertEqual(self.deeds(("seq", 2, 1), {0: ["a"]}), [("over", 0)])
        self.assertEqual(self.deeds(("seq", 7, 7), {}), [("put", 1, "7"), ("over", 0)])
        self.assertEqual(texts_of(self.deeds(("seq", 999999998, 999999999), {})), ["999999998", "999999999"])
        self.assertEqual(self.deeds(("yes", " y"), {}, 3), [("put", 1, " y")] * 3)
        self.assertEqual(self.deeds(("true",), {}), [("over", 0)])
        self.assertEqual(self.deeds(("false",), {}), [("over", 1)])

    def test_plain_is_alone(self):
        maker = ProgramMaker(5)
        for _ in range(600):
            piece, streams = maker.piece(), maker.streams()
            told = self.deeds(piece, streams)
            self.assertTrue(is_alike(plain_of(piece, streams, maker.pick([0, 1, 9])), (outs_of(told), told[-1][1])), piece)
            self.assertTrue(is_alike(plain_of(changed(piece), changed(streams), 2), (outs_of(told), told[-1][1])))
            self.assertTrue(is_new(plain_of(piece, streams, 3), streams))
        for most in range(4):
            told = plain_of(piece=("yes", "a"), streams={0: ["u"]}, most=most)
            self.assertTrue(is_alike(told, ({1: ["a"] * most} if most else {}, None)))
            self.assertEqual(told[0], outs_of(alone(program_of(("yes", "a")), {}, most)))

    def test_wrong(self):
        for thing in WRONG_PIECES:
            for function in (program_of, lambda piece: plain_of(piece, None, None)):
                with self.assertRaises(BadPiece) as caught:
                    function(thing)
                self.assertIs(caught.exception.piece, thing)
        for streams in WRONG_STREAMS:
            with self.assertRaises(BadStreams) as caught:
                plain_of(("cat",), streams, None)
            self.assertIs(caught.exception.streams, streams)
        for most in WRONG_NUMBERS:
            with self.assertRaises(BadMost) as caught:
                plain_of(("cat",), {}, most)
            self.assertIs(caught.exception.most, most)
        self.assertEqual(program_of(piece=["cat"]), program_of(("cat",)))


if __name__ == "__main__":
    unittest.main()
