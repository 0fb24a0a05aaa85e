"""Every example of the document, in its order: [3.6] to [20.4]."""

import unittest

from everypipe.actors import actor_of
from everypipe.alikerows import parting_stream
from everypipe.allruns import soonest, stands_of
from everypipe.alone import alone, needs_of
from everypipe.everypoint import first_torn, left_at, points_of, torn_files
from everypipe.expansion import expanded
from everypipe.filelists import files_of, unlike_at
from everypipe.filetrees import opened, resolved
from everypipe.givens import program_of
from everypipe.globs import is_taken
from everypipe.lateness import late_run
from everypipe.looking import looked_at
from everypipe.machines import Machine
from everypipe.onerun import script_word
from everypipe.orders import counts
from everypipe.outcomes import script_outcome
from everypipe.patternpairs import count_matches, least_line, parting_line
from everypipe.patterns import first_match, is_match
from everypipe.patterntexts import pattern_fault, read_pattern
from everypipe.plain import plain_meaning
from everypipe.plans import height_paper, level_plan
from everypipe.programtexts import program_fault, read_program
from everypipe.rings import ring_of
from everypipe.rooms import least_rooms
from everypipe.rowmeanings import row_meaning
from everypipe.rowparts import parting
from everypipe.rows import dead_pieces
from everypipe.rowsteps import keeps_status, last_asked, last_row, row_needs
from everypipe.rowtexts import row_fault, row_text
from everypipe.scriptmachines import script_machine
from everypipe.sessions import Session
from everypipe.shellreading import read_script, script_fault
from everypipe.shells import shell_actor
from everypipe.signs import leaving_out, sign_status
from everypipe.slots import by_slots
from everypipe.sureness import cuts
from everypipe.tasks import Tasks
from everypipe.twoplans import paper_rounds, two_paper, two_plan
from helper import is_alike
from made_machines import telling

ONE = {(): 1}
P, Q = (0,), (1,)
PUT, TAKE = ("pipe", (0,), "put"), ("pipe", (0,), "take")


class Examples(unittest.TestCase):
    def alike(self, told, wanted):
        self.assertTrue(is_alike(told, wanted), (told, wanted))

    def test_3_6(self):
        self.alike(read_script("a $x\"b c\" | d 2>&1 &"), [(("row", [
            ("run", [], [[("plain", "a")], [("value", "x", False), ("held", "b c")]], []), ("run", [], [[("plain", "d")]], [(2, "&", 1)])]), True)])
        for text, fault in [("a | | b", (1, 5)), ("if a; then b", (1, 13)), ("end x", (1, 4)), ("a$@", (1, 3))]:
            self.alike(script_fault(text), fault)

    def test_4_8(self):
        scope = ({"x": "a b", "y": ""}, ["c d"])
        for text, strings in [("$x\"$x\"$y", ["a", "ba b"]), ("$y", []), ("\"$y\"", [""]), ("$@ $1", ["c d", "c", "d"]), ("${y:-$x}e", ["a", "be"]), ("$((7 / -2))${#x}", ["-33"])]:
            self.alike(expanded(read_script(text)[0][0][2], scope, []), ("words", strings))

    def test_5_5(self):
        tree = {"a": ["x", "y"], "d": {"b": []}}
        self.assertEqual([resolved("d", "../a"), resolved("d", "./b/../../..//d"), resolved("", "a b")], ["a", "d", None])
        self.alike(opened(tree, "d/c", "add"), ({"a": ["x", "y"], "d": {"b": [], "c": []}}, ""))
        self.assertEqual([opened(tree, path, way)[1] for path, way in [("d/c", "read"), ("d", "add"), ("e/c", "cut")]], ["lacks", "directory", "lacks"])
        self.assertEqual(unlike_at(tree, {"a": ["x"], "d": {}}), "a")
        self.alike(files_of(tree), [("a", ["x", "y"]), ("d/b", [])])

    def test_6_8(self):
        program = read_program("take 0 a else 3\nput 1 a 'x'\njump 0\n")
        deeds = [("take", 0, "u"), ("put", 1, "ux"), ("take", 0, "v"), ("put", 1, "vx"), ("end", 0), ("over", 0)]
        self.alike(alone(program, {0: ["u", "v"]}, 9), deeds)
        self.alike(needs_of(deeds, 1), [{0: 1}, {0: 2}])
        self.alike(actor_of(program)(["u", None]), ("take", 0))
        self.alike(alone(program_of(("head", 1)), {0: ["u", "v"]}, 9), [("take", 0, "u"), ("put", 1, "u"), ("over", 0)])
        self.assertEqual([program_fault("take 0 a els"), program_fault("take 0 z")], [(1, 13), (1, 8)])

    def test_7_8(self):
        pattern = read_pattern("a*b|c")
        self.assertEqual((pattern, is_match(pattern, "aab"), first_match(pattern, "xabc")), (("either", ("row", ("often", ("of", "a")), ("of", "b")), ("of", "c")), True, (1, 3)))
        self.assertEqual(parting_line(read_pattern("a*"), read_pattern("(aa)*")), "a")
        self.assertIsNone(parting_line(read_pattern("(a|b)*"), read_pattern("(a*b*)*")))
        self.assertEqual((least_line(read_pattern("x+y")), count_matches(read_pattern("[a-c]."), 2)), ("xy", 282))
        self.assertEqual([pattern_fault(text) for text in ("a|*", "(a", "[b-a]")], [2, 2, 3])
        self.assertEqual([is_taken([("some",), ".", "c"], name) for name in ("m.c", ".c")], [True, False])

    def test_8_8(self):
        told = plain_meaning(read_script("{ say a; say b; say c > g; } | head 1 > f"), {}, [], [], 5000)
        self.alike(told[2], {"err": [], "f": ["a"], "out": []})
        self.assertIn("g", plain_meaning(read_script("{ cat; say c > g; } | head 0"), {}, [], ["l"], 5000)[2])
        self.alike(row_meaning([("seq", 1, 9), ("grep", read_pattern("3")), ("head", 1)], [], 20), (["3"], [0, 0, 0], [0, 9, 1]))

    def machine(self):
        return Machine({}, [(telling([("put", 1, "a"), ("put", 1, "b")]), {1: PUT}), (telling([("take", 0)], ("over", 7)), {0: TAKE})], ONE)

    def test_9_7(self):
        machine = self.machine()
        self.alike(machine.can(), [P])
        self.alike(machine.run([], 9), [(P, "put", P, "a"), (Q, "take", P, "a"), (P, "put", P, "b"), (Q, "over", None, 7), (P, "over", None, 0)])
        machine = self.machine()
        self.alike(machine.run([0, 0, 1], 9)[-1], (P, "broken", P, "b"))
        self.assertEqual(machine.status(P), 141)

    def test_10_11(self):
        actor = shell_actor(read_script("say a | head 1 > f"), [])
        word, rows, own = actor([])
        self.assertEqual((word, own), ("start", {}))
        self.alike([table for _, table in rows], [{0: ("own", 0), 1: ("new", 0, "put"), 2: ("own", 2)}, {0: ("new", 0, "take"), 1: ("own", 1), 2: ("own", 2)}])
        self.assertEqual([actor([None] * many) for many in (1, 2, 3)], [("wait", 0), ("wait", 1), ("ask", 1)])
        self.alike(actor([None, None, None, 0]), ("over", 0))
        self.alike(rows[1][0]([]), ("open", 10, "f", "cut"))
        word, head, table = rows[1][0]([""])
        self.assertTrue(word == "become" and head == actor_of(program_of(("head", 1))))
        self.alike(table, {0: ("own", 0), 1: ("own", 10), 2: ("own", 2)})

    def test_11_8(self):
        tasks = Tasks([(name, {"i": ["a"]}.get(name, ["d"] if name in "efgh" else []), [], []) for name in "abcdefghi"])
        lasts = dict(zip("abcdefghi", [3, 2, 2, 2, 4, 4, 4, 4, 9]))
        three, four = by_slots(tasks, 3, lasts), by_slots(tasks, 4, lasts)
        self.assertEqual([max(end for _, _, end in told) for told in (three, four)], [12, 15])
        self.assertEqual([begin for told in (three, four) for name, begin, _ in told if name == "i"], [3, 6])
        self.assertEqual((len(level_plan(tasks)), len(two_plan(tasks))), (2, 5))
        self.assertEqual((paper_rounds(tasks, two_paper(tasks)), paper_rounds(tasks, [])), (5, 5))
        self.alike(height_paper(tasks, 3), (0, 3))

    def test_12_7(self):
        def actor(answers):
            for answer in answers:
                if isinstance(answer, tuple):
                    return ("over", sign_status(answer[1]))
            return [("open", 1, "f", "cut"), ("put", 1, "a"), ("put", 1, "b"), ("over", 0)][len(answers)]
        self.assertEqual([sign_status(sign) for sign in ("int", "kill", "term")], [130, 137, 143])
        holders = [(actor, {})]
        self.assertEqual(points_of({}, holders, ONE, P), 4)
        self.alike(left_at({}, holders, ONE, P, "term"), [({}, [143]), ({"f": []}, [143]), ({"f": ["a"]}, [143]), ({"f": ["a", "b"]}, [143]), ({"f": ["a", "b"]}, [0])])
        self.assertEqual((torn_files({}, holders, ONE, P, "term"), first_torn({}, holders, ONE, P, "term")), (["f"], (1, "f")))
        self.assertEqual(torn_files({}, [(leaving_out(actor, ["term"]), {})], ONE, P, "term"), [])

    def test_13_6(self):
        machine = Machine({}, [(telling([], ("put", 1, "a")), {1: PUT}), (telling([("take", 0)]), {0: TAKE})], ONE)
        late = late_run(machine, 99)
        self.assertEqual([deed[1] for deed in late], ["put", "take", "put", "over", "broken"])
        _, net, row, _ = looked_at(machine, 99)
        self.assertEqual((counts(net, row)[1], counts(net, row)[4], cuts(net, late)), ({P: 1, Q: 1}, {P: 3, Q: 2}, {P: 2}))

    def test_14_8(self):
        writes = Machine({"f": []}, [(telling([("put", 1, "a"), ("put", 1, "b"), ("put", 3, "x")]), {1: PUT, 3: ("file", "f", "add")}), (telling([("take", 0)]), {0: TAKE})], ONE)
        word, net, row, _ = looked_at(writes, 99)
        self.alike((word, [deed[1] for deed in row], cuts(net, row)), (("touch", P, 3), ["put", "take", "put", "write", "over", "over"], {P: 2}))
        writes.run([0, 0, 1], 99)
        self.assertEqual((writes.files(), writes.deeds()[-1]), ({"f": []}, (P, "broken", P, "b")))
        silent = Machine({}, [(telling([("put", 1, "a"), ("put", 1, "b")]), {1: PUT}), (telling([("take", 0)]), {0: TAKE})], ONE)
        self.assertEqual(looked_at(silent, 99)[0], ("one",))

    def test_15_6(self):
        given = lambda *piece: actor_of(program_of(piece))
        holders = [(given("tee", 3), {0: ("lines", ["b", "c", "a"]), 1: PUT, 3: ("pipe", (1,), "put")}), (given("sort"), {0: TAKE, 1: ("pipe", (2,), "put")}),
                   (given("paste", 3), {0: ("pipe", (2,), "take"), 3: ("pipe", (1,), "take")})]
        for room in (1, 2):
            machine = Machine({}, holders, {(): 8, (1,): room})
            machine.run([], 999)
            self.assertEqual(machine.waiting(P), ("put", (1,)))
            self.assertEqual((machine.waiting((2,)), machine.waiting(Q)), (("take", (2,)), ("take", P)))
            self.assertEqual(ring_of(machine), [P, (2,), Q])
        self.assertEqual(list(least_rooms({}, holders, [], 8, 999).values())[1:], [1, 3, 1])

    def test_16_7(self):
        script = read_script("seq 1 9 | grep 3 | head 1 > f")
        for room in (1, 2, 5, 8):
            self.assertEqual(script_word(script, {}, [], [], {(): room}, 600), ("one",))
            self.alike(script_outcome(script, {}, [], [], {(): room}, [2, 1, 0], 600), ("ends", 0, {"err": [], "f": ["3"], "out": []}, 0))
        race = read_script("say a >> f & say b >> f; wait")
        self.assertEqual(script_word(race, {"f": []}, [], [], ONE, 600)[0], "pair")
        left = [script_outcome(race, {"f": []}, [], [], ONE, schedule, 600)[2]["f"] for schedule in ([0] * 20, [1] * 20)]
        self.assertEqual(sorted(left), [["a", "b"], ["b", "a"]])
        self.assertEqual(script_word(read_script("yes a | head 2"), {}, [], [], ONE, 600), ("one",))
        self.assertEqual(script_outcome(read_script("yes a | head 2"), {}, [], [], ONE, [], 600)[2]["out"], ["a", "a"])

    def test_17_7(self):
        a, b, cat, sort, uniq, wc = ("grep", read_pattern("a")), ("grep", read_pattern("b")), ("cat",), ("sort",), ("uniq",), ("wc",)
        self.alike(last_row([b, cat, a, sort, sort, ("head", 5), ("head", 3)]), [a, b, sort, ("head", 3)])
        self.alike(last_row([sort, a]), [a, sort])
        self.assertFalse(keeps_status([sort, a], ("sort grep", 0)))
        self.alike(last_asked([sort, a]), [sort, a])
        for row in ([("cut", 2), ("head", 3)], [("head", 3), ("cut", 2)]):
            self.alike(last_row(row), [("head", 3), ("cut", 2)])
        self.assertEqual(dead_pieces([sort, uniq, ("head", 0), wc]), 2)
        self.alike(last_row([sort, uniq, ("head", 0), wc]), [("head", 0), wc])
        self.assertEqual((row_needs([("cut", 1), ("head", 3)], 2), row_needs([sort], 1)), (2, None))

    def test_18_5(self):
        text = row_text(self.machine().run([], 9))
        self.assertEqual(text, "0 put 0 = a\n1 take 0 = a\n0 put 0 = b\n1 over 7\n0 over 0\n")
        rows = stands_of(self.machine(), 9)
        self.assertEqual([[deed[0][0] for deed in row] for row in rows], [[0, 1, 0, 0, 1], [0, 1, 0, 1, 0], [0, 1, 1, 0]])
        self.alike(parting(rows[0], rows[2]), (P, 1))
        self.alike(soonest(self.machine(), (P, "put"), (Q, "over"), 9), [P, Q])
        self.assertEqual(row_fault(text[:-1]), (5, 9))

    def test_19_5(self):
        g, uniq, sort = ("grep", read_pattern("a")), ("uniq",), ("sort",)
        head, tail = lambda k: ("head", k), lambda k: ("tail", k)
        self.alike(parting_stream([g, head(1)], [head(1), g]), ["", "a"])
        self.alike(parting_stream([tail(2), head(1)], [head(1), tail(2)]), ["", " ", ""])
        self.assertIsNone(parting_stream([head(2), head(3)], [head(2)]))
        self.alike(parting_stream([uniq, g], [g, uniq]), ["a", "", "a"])
        self.assertIsNone(parting_stream([sort, uniq], [sort, uniq, sort]))

    def test_20_4(self):
        session = Session({}, ONE)
        self.assertEqual(session.enter("def twice { cat | tee 3 3>&1; }", [], 600)[0][0], "ends")
        self.assertEqual(session.defined(), ["twice"])
        session.enter("say a > f", [], 600)
        self.assertEqual(session.now(), {"f": ["a"]})
        session.enter("twice < f > g", [], 600)
        self.assertEqual(session.now()["g"], ["a", "a"])
        self.assertNotEqual(session.word("say b >> f & say c >> f; wait", 600), ("one",))
        self.assertEqual(script_machine([], {}, [], [], ONE).can(), [P])


if __name__ == "__main__":
    unittest.main()
