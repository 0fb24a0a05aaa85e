"""Promise [3.5]: one form of scripts as texts."""

import unittest

from everypipe.errors import BadScript
from everypipe.shellreading import read_script
from everypipe.shellwriting import script_text
from helper import Maker, SIGNS, any_objects, changed, is_alike, read_again

A = [("plain", "a")]
RUN = ("run", [], [A], [])
LIST = [(RUN, False)]


def run(*words):
    return ("run", [], [[("plain", word)] if isinstance(word, str) else word for word in words], [])


class Writing(unittest.TestCase):
    def form(self, text, command):
        script = [(command, False)]
        self.assertEqual(script_text(script), text + "\n")
        self.assertEqual(script_text(changed(script)), text + "\n")
        self.assertTrue(is_alike(read_script(text + "\n"), script))

    def rewritten(self, text, told):
        self.assertEqual(script_text(read_script(text)), told)

    def test_commands(self):
        self.assertEqual(script_text([]), "")
        self.assertEqual(script_text(script=[(RUN, True), (RUN, False)]), "a &\na\n")
        self.rewritten("a;b&c", "a\nb &\nc\n")
        self.rewritten(" a  b|c&&!d||e&", "a b | c && ! d || e &\n")
        self.rewritten("{a}", "{ a; }\n")
        self.rewritten("{a;b&c}>f", "{ a; b & c; } 1>f\n")
        self.rewritten("(a;)2>&1", "( a; ) 2>&1\n")
        self.rewritten("((a))", "( ( a; ); )\n")
        self.rewritten("if a\nthen b&c\nend>f", "if a; then b & c; end 1>f\n")
        self.rewritten("if a\nthen b\nelse c;end", "if a; then b; else c; end\n")
        self.rewritten("while a;b\ndo c;end<f", "while a; b; do c; end 0<f\n")
        self.rewritten("for x in a b\ndo c;end", "for x in a b; do c; end\n")
        self.rewritten("for x in $@\ndo c;end", "for x in $@; do c; end\n")
        self.rewritten("for x in\ndo c;end >f", "for x in; do c; end 1>f\n")
        self.rewritten("case $x\nwhen a|'b'\ndo c&\nwhen d;do e\nend", "case ${x}; when a | \"b\"; do c & when d; do e; end\n")
        self.rewritten("def f{a}", "def f { a; }\n")
        self.rewritten("!a|b", "! a | b\n")
        self.rewritten("a # b", "a\n")

    def test_runs(self):
        self.rewritten(">f x=1 a<g y= b", "x=1 a y= b 1>f 0<g\n")
        self.rewritten("x= y=\"a\"$z", "x= y=\"a\"${z}\n")
        self.rewritten("x= >f", "x= 1>f\n")
        self.rewritten(">f", "1>f\n")
        self.rewritten("a >f 2>&1 1>&- 3>>g 4<:h <i", "a 1>f 2>&1 1>&- 3>>g 4<:h 0<i\n")
        self.rewritten("a < :x", "a 0< :x\n")
        self.rewritten("a <::x", "a 0<::x\n")
        self.rewritten("a >:x", "a 1>:x\n")
        self.rewritten("a >> :x", "a 1>>:x\n")
        self.rewritten("a < ':x'", "a 0<\":x\"\n")
        self.rewritten("a <$x:", "a 0<${x}:\n")

    def test_words(self):
        self.form("a \"\"", run("a", [("held", "")]))
        self.form("\"\\\"\\\\\\$'`#\n\"", run([("held", "\"\\$'`#\n")]))
        value = ("value", "x", True)
        self.form("b\"c${x}d${x}\"${x}\"e\"", run([("plain", "b"), ("held", "c"), value, ("held", "d"), value,
                                                   ("value", "x", False), ("held", "e")]))
        self.form("${x}b$1$?$#$#a", run([("value", "x", False), ("plain", "b"), ("value", "1", False), ("value", "?", False),
                                         ("value", "#", False), ("value", "#", False), ("plain", "a")]))
        self.form("\"$1\"${#y}${#2}", run(
            [("value", "1", True), ("size", "y", False), ("size", "2", False)]))
        self.form("${x:-}${1:-a\"b\"}", run([("else", "x", [], False), ("else", "1", [("plain", "a"), ("held", "b")], False)]))
        self.form("\"${x:-${y}}\"", run([("else", "x", [("value", "y", False)], True)]))
        self.form("a $@", run("a", [("all",)]))
        self.form("$(a;)\"$(a;)\"", run([("out", LIST, False), ("out", LIST, True)]))
        self.form("$(a &)", run([("out", [(RUN, True)], False)]))
        sub = ("sub", LIST, [])
        for command, text in [(sub, "( a; );"), (("row", [sub, RUN]), "( a; ) | a;"), (("and", sub, RUN), "( a; ) && a;"),
                              (("or", ("and", ("row", [sub, RUN]), RUN), RUN), "( a; ) | a && a || a;")]:
            self.form("$( " + text + ")", run([("out", [(command, False)], False)]))
        self.form("$({ ( a; ); };)", run([("out", [(("group", [(sub, False)], []), False)], False)]))
        self.form("$(! ( a; );)", run([("out", [(("not", sub), False)], False)]))

    def test_sums(self):
        def total(text, thing):
            self.form("$((" + text + "))", run([("sum", thing, False)]))
            self.form("\"$((" + text + "))\"", run([("sum", thing, True)]))

        one, x = ("number", 1), ("name", "x")
        total("1", one)
        total("x", x)
        total("-x", ("less", x))
        total("-(-x)", ("less", ("less", x)))
        total("-(1 + x)", ("less", ("+", one, x)))
        for sign in ["+", "-", "*", "/", "~", "<", "<=", "="]:
            total("1 " + sign + " x", (sign, one, x))
            total("(1 " + sign + " x) " + sign + " 1", (sign, (sign, one, x), one))
            total("1 " + sign + " (x " + sign + " 1)", (sign, one, (sign, x, one)))
            total("-1 " + sign + " -x", (sign, ("less", one), ("less", x)))
        total("-(-(-1)) * (1 + -(x < x))", ("*", ("less", ("less", ("less", one))), ("+", one, ("less", ("<", x, x)))))

    def test_it_holds(self):
        maker = Maker(7)
        for _ in range(300):
            script = maker.script(maker.pick([0, 1, 2]))
            before = changed(changed(script))
            text = script_text(script)
            self.assertTrue(is_alike(read_script(text), script), text)
            self.assertTrue(is_alike(read_again(text), script), text)
            self.assertTrue(is_alike(script, before))
            self.assertEqual(script_text(changed(script)), text)

    def test_every_sign_held(self):
        for sign in SIGNS + "\n":
            script = [(run([("held", sign)]), False)]
            self.assertEqual(read_script(script_text(script)), script)

    def test_wrong(self):
        for thing in [*any_objects(), [(("run", [], [], []), False)]]:
            if thing in ([], ()):
                continue
            with self.assertRaises(BadScript) as caught:
                script_text(thing)
            self.assertIs(caught.exception.script, thing)


if __name__ == "__main__":
    unittest.main()
