"""Promises [8.1] to [8.4], [8.6], [8.7], and of [8.8] what plain_meaning tells."""

import unittest

from everypipe.errors import BadHolders, BadScript, BadSteps, BadTree
from everypipe.plain import plain_meaning
from everypipe.refusals import BadArguments, BadLines
from everypipe.scriptmachines import script_machine
from everypipe.shellreading import read_script
from everypipe.shelltrees import is_script
from helper import Maker, any_objects, changed, is_alike, is_new


def meaning(text, lines=(), steps=5000, tree=None, arguments=()):
    return plain_meaning(read_script(text), tree or {}, list(arguments), list(lines), steps)


def files(text, **more):
    """The files of what ends that have lines."""
    told = meaning(text, **more)
    assert told[0] == "ends", (text, told)
    return {name: lines for name, lines in told[2].items() if lines != []}


class Plain(unittest.TestCase):
    def test_examples(self):
        self.assertTrue(is_alike(meaning("{ say a; say b; say c > g; } | head 1 > f"), ("ends", 0, {"err": [], "f": ["a"], "out": []}, 0)))
        for lines in ([], ["u"], ["u", "v", "w"]):
            self.assertEqual(meaning("{ cat; say c > g; } | head 0", lines=lines),
                             ("ends", 0, {"err": [], "g": ["c"], "out": []}, min(1, len(lines))))

    def test_one_behind_another(self):
        self.assertEqual(files("say a > f & cat < f; say b >> f; wait; say $?"), {"f": ["a", "b"], "out": ["a", "0"]})
        self.assertEqual(meaning("{ read a; say \"<$a>\"; } & read b; say $b; exit 7", lines=["u", "v"]),
                         ("ends", 7, {"err": [], "out": ["<>", "u"]}, 1))
        self.assertEqual(files("( x=2; say $x ); say $x; y=$(say p; say q > f; say r); say \"$y\""), {"out": ["2", "", "p", "r"], "f": ["q"]})
        self.assertEqual(meaning("head 1; read x; say $x; cat", lines=["a", "b", "c"])[2:], ({"err": [], "out": ["a", "b", "c"]}, 3))
        self.assertEqual(files("exit 4 & wait 1; say $?; is file f; say $?; say *; cat < f > f; say $(false)$?", tree={"f": ["u"], "d": {}}),
                         {"out": ["4", "0", "d err f out", "1"], "d": {}})
        self.assertEqual(files("cat < d; say $?; tee 3 < f 3>> g; say $?", tree={"d": {}, "f": ["u"]}), {"d": {}, "f": ["u"], "g": ["u"], "out": ["1", "u", "0"]})

    def test_by_need(self):
        self.assertEqual(files("seq 1 9 | grep 3 | head 1 > f"), {"f": ["3"]})
        self.assertEqual(files("yes a | head 3 | { read x; say $x; cat; }"), {"out": ["a", "a", "a"]})
        # The shell that says b is ended: nobody takes it; p was not yet put when s was.
        self.assertEqual(files("{ say a; say p >> f; say b; say q >> f; } | { read x; say s >> f; }"), {"f": ["s", "p"]})
        self.assertEqual(files("{ say a; say p >> f; say b; say q >> f; } | { read x; read y; say s >> f; }"), {"f": ["p", "s", "q"]})
        self.assertEqual(files("{ say p >> f; say a; } | { say s >> f; }"), {"f": ["s", "p"]})
        self.assertEqual(files("{ say p >> f; cat; } | { say q >> f; cat; } | { say r >> f; cat; }", lines=["l"]), {"f": ["r", "q", "p"], "out": ["l"]})
        self.assertEqual(files("{ cat; say p >> f; } | { cat; say q >> f; } | { head 1; say r >> f; }", lines=["l", "m"]),
                         {"f": ["r", "q", "p"], "out": ["l"]})
        self.assertEqual(files("{ say a; say b; } | { ( read x; say $x ); cat; } | sort"), {"out": ["a", "b"]})
        self.assertEqual(files("{ say a; say b; } | { { cat; say c; } | head 2; say d; } | cat"), {"out": ["a", "b", "d"]})
        self.assertEqual(files("{ seq 1 3 | { tee 3 | cat >> f; } 3>&1; } | { read x; say $x; cat; }"), {"f": ["1", "2", "3"], "out": ["1", "2", "3"]})
        self.assertEqual(files("{ seq 1 3 | { tee 3 | cat >> f; } 3>&1; } | { read x; say $x; }"), {"f": ["1", "2"], "out": ["1"]})

    def test_broken(self):
        self.assertEqual(files("strict on; yes a | head 1; say $?; seq 1 1 | head 1; say $?"), {"out": ["a", "141", "1", "0"]})
        self.assertEqual(files("{ yes a; say $? > f; } | head 1"), {"f": ["141"], "out": ["a"]})
        self.assertEqual(files("{ ( say a; say b; say c >> f ); say $? >> f; } | head 1"), {"f": ["141"], "out": ["a"]})
        self.assertEqual(files("{ x=$(yes a | head 2); say $x; } | cat; say $?"), {"out": ["a a", "0"]})
        self.assertEqual(files("false | { cat; exit 3; }; say $?"), {"out": ["3"]})

    def test_no_meaning(self):
        self.assertEqual(meaning("true & kill int 1"), ("none",))
        self.assertEqual(meaning("kill int 1; say a")[0], "ends")
        self.assertEqual(meaning("yes a"), ("long",))
        self.assertEqual(meaning("x=$(yes a)"), ("long",))
        self.assertEqual(meaning("yes a | cat | sort; kill int 1"), ("long",))
        self.assertEqual(meaning("while is a; do is b; end"), ("ends", 125, {"err": [], "out": []}, 0))
        self.assertEqual(meaning("while is a; do is b <:c; end"), ("ends", 125, {"err": [], "out": []}, 0))

    def test_steps(self):
        for text, lines, steps in [
            ("", [], 1), ("say a", [], 2), ("say a > f", [], 3), ("say a <:b", [], 2), ("cat", ["u"], 8), ("cat", [], 6), ("read x", ["u"], 2),
            ("is file f", [], 2), ("say *", [], 3), ("( exit 3 )", [], 5), ("true &", [], 4), ("x=$(say a)", [], 8), ("true && say a", [], 6),
            ("say a | cat", [], 12), ("yes a | head 1", [], 12), ("{ say a; say b; } | head 1", [], 11), ("while is a; do is b; end", [], 1),
            ("say a > x/y", [], 2),
        ]:
            found = next(many for many in range(60) if meaning(text, lines=lines, steps=many) != ("long",))
            self.assertEqual(meaning(text, lines=lines, steps=found), meaning(text, lines=lines))
            if found:
                self.assertEqual(meaning(text, lines=lines, steps=found - 1), ("long",))
            self.assertEqual(found, steps, text)

    def test_what_is_passed_and_told(self):
        tree, arguments, lines = {"f": ["u"], "d": {"e": []}}, ["a"], ["l"]
        script = read_script("say $1 >> f; cat > d/e")
        told = plain_meaning(script=script, tree=tree, arguments=arguments, lines=lines, steps=99)
        self.assertTrue(is_alike(told, ("ends", 0, {"d": {"e": ["l"]}, "err": [], "f": ["u", "a"], "out": []}, 1)))
        self.assertEqual((tree, arguments, lines), ({"f": ["u"], "d": {"e": []}}, ["a"], ["l"]))
        self.assertTrue(is_new(told, tree))
        self.assertTrue(is_alike(plain_meaning(changed(script), changed(tree), ("a",), ("l",), 99), told))
        self.assertEqual(meaning("say a", tree={"out": ["o"], "err": ["e"]})[2], {"err": ["e"], "out": ["o", "a"]})

    def test_wrong(self):
        for thing in any_objects():
            if not is_script(thing):
                with self.assertRaises(BadScript) as caught:
                    plain_meaning(thing, None, None, None, None)
                self.assertIs(caught.exception.script, thing)
        with self.assertRaises(BadTree):
            plain_meaning([], None, None, None, None)
        for tree in [{"out": {}}, {"err": {}}]:
            with self.assertRaises(BadHolders) as caught:
                plain_meaning([], tree, None, None, None)
            self.assertEqual(caught.exception.index, 0)
        with self.assertRaises(BadArguments) as caught:
            plain_meaning([], {}, ["a", 1], None, None)
        self.assertEqual(caught.exception.index, 1)
        with self.assertRaises(BadLines) as caught:
            plain_meaning([], {}, [], ["a", 1], None)
        self.assertEqual(caught.exception.index, 1)
        for steps in [None, -1, True, "9", [1]]:
            with self.assertRaises(BadSteps) as caught:
                plain_meaning([], {}, [], [], steps)
            self.assertIs(caught.exception.steps, steps)


class ScriptMaker(Maker):
    """Scripts in which nothing races: whoever writes a file is the shell itself, or the last piece of a row."""

    def piece(self):
        return self.pick(["cat", "grep a", "grep 'b|1'", "sort", "uniq", "head 1", "head 2", "head 0", "tail 1", "tail 2", "wc", "cut 1", "cut 2",
                          "{ read x; say \"<$x>\"; cat; }", "{ head 1; cat; }", "( cat; say z )", "{ cat | sort; }", "while read x; do say $x$x; end",
                          "{ read x; say $x; read y; say $y; }", "if read x; then say $x; end"])

    def source(self):
        return self.pick(["seq 1 12", "yes a", "say 'a b\nb a\n\na'", "cat <:'b\na\na b\nab'", "{ say a; say b; seq 2 4; }", "seq 3 1",
                          "for i in p q r; do say $i a; end", "true", "yes b | head 5", "{ say k; say $(say u; say v); }"])

    def row(self):
        pieces = [self.source()] + self.some(self.piece, 0, 4)
        if pieces[0] == "yes a":
            pieces.append(self.pick(["head 1", "head 3"]))
            pieces.insert(1, "cat")
            pieces[2:-1] = []
        return " | ".join(pieces) + self.pick(["", " > f", " >> g", " > f"])

    def part(self):
        row = self.row()
        return self.pick([row, row, row, "x=$(" + row + "); say \"$x\"", "( " + row + " )", "cat < f", "say $?", "read x; say $x", "! " + row,
                          row + " && say y || say n", "for i in 1 2; do " + row + "; end", row + " & wait", "case $x; when a*; do " + row + "; end"])

    def text(self):
        return "; ".join(self.some(self.part, 1, 3))


class AsMachines(unittest.TestCase):
    def test_machines_leave_what_the_plain_meaning_tells(self):
        maker = ScriptMaker(1)
        ends = 0
        for _ in range(400):
            text, lines = maker.text(), maker.pick([[], ["l a", "m b", "l a"]])
            told = meaning(text, lines=lines, tree={"f": ["o a"]})
            if told[0] != "ends":
                continue
            for _ in range(3):
                rooms = {(): maker.pick([1, 1, 2, 8])}
                machine = script_machine(read_script(text), {"f": ["o a"]}, [], lines, rooms)
                machine.run([maker.random.randrange(8) for _ in range(maker.pick([0, 30, 300]))], 3000)
                self.assertEqual(machine.left(), [], text)
                self.assertEqual((machine.status((0,)), machine.files()), told[1:3], text)
                ends += 1
        self.assertGreater(ends, 600)


if __name__ == "__main__":
    unittest.main()
