"""Promises [3.3], [3.4], and the example [3.6]."""

import itertools
import unittest

from everypipe.errors import BadShellText
from everypipe.shellreading import completed, read_script, script_fault
from everypipe.shelltrees import is_script
from everypipe.shellwriting import script_text
from helper import KEPT, Maker, SIGNS, any_objects, is_alike, is_new, read_again


def plain(text):
    return [("plain", text)]


def held(text):
    return [("held", text)]


def run(*words):
    return ("run", [], [plain(word) if isinstance(word, str) else word for word in words], [])


def place(text, fault):
    """The index in a text of a fault."""
    line, sign = fault
    return sum(len(row) + 1 for row in text.split("\n")[:line - 1]) + sign - 1


class Reading(unittest.TestCase):
    def reads(self, text, *commands):
        script = [command if isinstance(command[1], bool) else (command, False) for command in commands]
        self.assertTrue(is_alike(read_script(text), script), (text, read_script(text)))
        self.assertIsNone(script_fault(text))

    def word(self, text, *pieces):
        self.reads("a " + text, run("a", list(pieces)))

    def wrong(self, text, fault):
        self.assertTrue(is_alike(script_fault(text), fault), (text, script_fault(text)))
        with self.assertRaises(BadShellText) as caught:
            read_script(text)
        self.assertEqual((caught.exception.line, caught.exception.sign), fault)
        told = completed(text)
        if place(text, fault) < len(text):
            self.assertIsNone(told)
        else:
            self.assertTrue(told.startswith(text))
            self.assertTrue(is_script(read_script(told)))

    def wrong_last(self, *texts):
        """The last sign of each text is its first wrong one; what is ahead of it can go on."""
        for text in texts:
            self.wrong(text, (text[:-1].count("\n") + 1, len(text[:-1].split("\n")[-1]) + 1))
            self.assertIsNotNone(completed(text[:-1]), text)
            self.wrong(text + " a; b", script_fault(text))

    def lacks(self, *texts):
        """Each text is not yet one, and can go on."""
        for text in texts:
            self.wrong(text, (text.count("\n") + 1, len(text.split("\n")[-1]) + 1))

    def test_example(self):
        self.assertTrue(is_alike(read_script("a $x\"b c\" | d 2>&1 &"), [
            (("row", [("run", [], [[("plain", "a")], [("value", "x", False), ("held", "b c")]], []),
                      ("run", [], [[("plain", "d")]], [(2, "&", 1)])]), True)]))
        self.wrong("a | | b", (1, 5))
        self.wrong("if a; then b", (1, 13))
        self.wrong("end x", (1, 4))
        self.wrong("a$@", (1, 3))

    def test_empty(self):
        for text in ["", " ", "\n", " \n\n ", "# a", "#", "#\n #\n"]:
            self.reads(text)

    def test_no_string(self):
        for thing in any_objects():
            if not isinstance(thing, str):
                self.assertEqual(script_fault(thing), (0, 0))
                self.assertIsNone(completed(thing))
                with self.assertRaises(BadShellText) as caught:
                    read_script(thing)
                self.assertEqual((caught.exception.line, caught.exception.sign), (0, 0))

    def test_names_of_parameters(self):
        self.assertEqual(read_script(text="a"), read_script("a"))
        self.assertEqual(script_fault(text=")"), (1, 1))
        self.assertIsNotNone(completed(text="{"))

    def test_signs(self):
        for sign in "%\t\r\u00e9":
            for text in ["", "a ", "'", "\"", "\\", "# ", "$((1", "${x"]:
                self.wrong_last(text + sign)
        self.wrong_last("`", "a `", "a`", ")", "}", ";", "|", "&", "a ;;", "a & &", "a &;", "a;&", "a\n;", "a|;")
        self.reads("'`'", run(held("`")))

    def test_ends(self):
        a, b = run("a"), run("b")
        for text in ["a;b", "a\nb", "a;b;", "a\nb\n", "a ; \n\n b", "a #x\nb#y", "\n\na;b\n\n", "a;#x;\nb"]:
            self.reads(text, a, b)
        self.reads("a&b", (a, True), (b, False))
        self.reads("a &\n b & ", (a, True), (b, True))
        self.reads("a&#b", (a, True))

    def test_rows(self):
        a, b, c = run("a"), run("b"), run("c")
        self.reads("a|b | c", ("row", [a, b, c]))
        self.reads("a|\n\n #x\n b", ("row", [a, b]))
        self.reads("a&&b||c", ("or", ("and", a, b), c))
        self.reads("a||b && c&", (("and", ("or", a, b), c), True))
        self.reads("a&&\n#x\nb", ("and", a, b))
        self.reads("a||\n b", ("or", a, b))
        self.reads("!a", ("not", a))
        self.reads("!  a | b && ! c", ("and", ("not", ("row", [a, b])), ("not", c)))
        self.wrong_last("! !", "!\n", "! #", "a | !", "a |||", "a &&&", "a ||&", "a | &", "a && ;", "a\n|", "a\n&", "!;")
        self.lacks("a |", "a &&", "a ||", "a | \n", "!", "! ", "a && !")
        self.reads("a && ! b", ("and", a, ("not", b)))
        self.reads("{ a }|(b)", ("row", [("group", [(a, False)], []), ("sub", [(b, False)], [])]))

    def test_groups(self):
        inside = [(run("a"), False)]
        for text in ["{ a; }", "{a}", "{\n a\n}", "{#x\na;}", " { a } ", "{ a };"]:
            self.reads(text, ("group", inside, []))
        for text in ["( a )", "(a;)", "(\na)"]:
            self.reads(text, ("sub", inside, []))
        self.reads("((a))", ("sub", [(("sub", inside, []), False)], []))
        self.reads("{ a & }", ("group", [(run("a"), True)], []))
        self.wrong_last("{}", "{ }", "()", "(;", "{ a )", "( a }", "a {", "a(", "{ a } b", "( a ) \"", "{a}{", "{a}$")
        self.lacks("{", "{ a", "{ a;", "{ a;\n", "(", "( a")

    def test_turns_behind_commands(self):
        self.reads("{a}2>f<g", ("group", [(run("a"), False)], [(2, ">", plain("f")), (0, "<", plain("g"))]))
        self.reads("if a;then b;end 1>f >&2", ("if", [(run("a"), False)], [(run("b"), False)], None,
                                               [(1, ">", plain("f")), (1, "&", 2)]))
        self.wrong_last("{a} 23", "{a} 2 ", "{a} 2;", "{a} 2#", "(a) f", "{a} >f g")
        self.lacks("{a} 2", "{a} >", "{a} 2>&")
        self.wrong_last("def f{a}>", "def f{a} 1", "def f{a} b")

    def test_runs(self):
        self.reads("x=1 y= z=$a b c=d >f", ("run", [("x", plain("1")), ("y", []), ("z", [("value", "a", False)])],
                                            [plain("b"), plain("c=d")], [(1, ">", plain("f"))]))
        self.reads(">f x=1 <g a y=2", ("run", [("x", plain("1"))], [plain("a"), plain("y=2")],
                                       [(1, ">", plain("f")), (0, "<", plain("g"))]))
        self.reads("x=", ("run", [("x", [])], [], []))
        self.reads("x=\"\"", ("run", [("x", held(""))], [], []))
        self.reads("x=\"$y\"", ("run", [("x", [("value", "y", True)])], [], []))
        self.reads("x=a\"b\"$y", ("run", [("x", [("plain", "a"), ("held", "b"), ("value", "y", False)])], [], []))
        self.reads("x==", ("run", [("x", plain("="))], [], []))
        self.reads("abcdefghi=1", run("abcdefghi=1"))
        for text in ["X=1", "1=1", "=1", "x-=1"]:
            self.reads(text, run(text))
        self.reads("x\\=1", run([("plain", "x"), ("held", "="), ("plain", "1")]))
        self.wrong_last("x=$@", "x=a$@", "x=(", ">$@", "a >\n", "a <;")

    def test_turns(self):
        def turn(text, *turns):
            self.reads("a" + text, ("run", [], [plain("a")], list(turns)))

        turn(">f", (1, ">", plain("f")))
        turn("<f", (0, "<", plain("f")))
        turn(" > f", (1, ">", plain("f")))
        turn(">>f", (1, ">>", plain("f")))
        turn("<:f", (0, "<:", plain("f")))
        turn("<::f", (0, "<:", plain(":f")))
        turn("< :f", (0, "<", plain(":f")))
        turn(">:f", (1, ">", plain(":f")))
        turn(" 3<f 4<:f 5>f 6>>f", (3, "<", plain("f")), (4, "<:", plain("f")), (5, ">", plain("f")), (6, ">>", plain("f")))
        turn(">&2", (1, "&", 2))
        turn(" 0>&- 9>&0", (0, "-", None), (9, "&", 0))
        turn(">f2>g", (1, ">", plain("f2")), (1, ">", plain("g")))
        turn(">2>f", (1, ">", plain("2")), (1, ">", plain("f")))
        turn(">&1>f", (1, "&", 1), (1, ">", plain("f")))
        turn("<'a b'$x", (0, "<", [("held", "a b"), ("value", "x", False)]))
        turn(" 2>&1#x", (2, "&", 1))
        self.reads("a2>f", ("run", [], [plain("a2")], [(1, ">", plain("f"))]))
        self.reads("a 22>f", ("run", [], [plain("a"), plain("22")], [(1, ">", plain("f"))]))
        self.reads("a 12>f", ("run", [], [plain("a"), plain("12")], [(1, ">", plain("f"))]))
        self.reads("2'a'>f", ("run", [], [[("plain", "2"), ("held", "a")]], [(1, ">", plain("f"))]))
        self.reads("a 2 >f", ("run", [], [plain("a"), plain("2")], [(1, ">", plain("f"))]))
        self.reads("a '2'>f", ("run", [], [plain("a"), held("2")], [(1, ">", plain("f"))]))
        self.reads("x=2>f", ("run", [("x", plain("2"))], [], [(1, ">", plain("f"))]))
        self.reads("2>f", ("run", [], [], [(2, ">", plain("f"))]))
        self.reads("2", run("2"))
        self.wrong_last("a >>>", "a <<", "a <>", "a ><", "a >&&", "a >&a", "a >& ", "a >>&", "a <&", "a >&-2", "a >&12",
                        "a >&1x", "a >&1'", "a >&1$", "a >&1\\", "a >|", "a > #", "a $@2")
        self.lacks("a >", "a <", "a <:", "a >&", "a > ")

    def test_words(self):
        x = ("value", "x", False)
        self.word("b'c'd", ("plain", "b"), ("held", "c"), ("plain", "d"))
        self.word("'a'\"b\"\\c", ("held", "abc"))
        self.word("\\ \\'\\\\", ("held", " '\\"))
        self.word("''", ("held", ""))
        self.word("''\"\"", ("held", ""))
        self.word("$x''$x", x, ("held", ""), x)
        self.word("''$x", ("held", ""), x)
        self.word("\"\"b", ("held", ""), ("plain", "b"))
        self.word("\"$x\"", ("value", "x", True))
        self.word("''\"$x\"''", ("value", "x", True))
        self.word("\"$x$x\"''$x", ("value", "x", True), ("value", "x", True), x)
        self.word("\"a$x\"'b'", ("held", "a"), ("value", "x", True), ("held", "b"))
        self.word("\"a\nb\\\"\\\\\\$'#;\"", ("held", "a\nb\"\\$'#;"))
        self.word("'\n\\\"$#'", ("held", "\n\\\"$#"))
        self.reads("a#b", run("a"))
        self.reads("a \\#b", run("a", [("held", "#"), ("plain", "b")]))
        self.wrong_last("\\\n", "\"\\a", "\"\\\n", "\"\\`", "a !", "a\"\"!")
        self.lacks("'", "\"", "\\", "'a\n", "\"a\n", "\"\\", "\"$x")
        self.lacks("'#")

    def test_parameters(self):
        self.word("$abc1-", ("value", "abc1", False), ("plain", "-"))
        self.word("$abcdefgh", ("value", "abcdefgh", False))
        self.word("$12", ("value", "1", False), ("plain", "2"))
        self.word("$#a$?b", ("value", "#", False), ("plain", "a"), ("value", "?", False), ("plain", "b"))
        self.word("${x}y", ("value", "x", False), ("plain", "y"))
        self.word("${9}", ("value", "9", False))
        self.word("${#x}${#1}", ("size", "x", False), ("size", "1", False))
        self.word("\"${#x}\"", ("size", "x", True))
        self.word("${x:-}", ("else", "x", [], False))
        self.word("${1:-a'b c'}", ("else", "1", [("plain", "a"), ("held", "b c")], False))
        self.word("\"${x:-$y\"a\"}\"", ("else", "x", [("value", "y", False), ("held", "a")], True))
        self.word("${x:-${y:-''}}", ("else", "x", [("else", "y", [("held", "")], False)], False))
        self.wrong_last("$abcdefghi", "$0", "$A", "$Z", "$ ", "$\n", "$$", "${}", "${0", "${?", "${##", "${#}", "${abcdefghi",
                        "${12", "${x-", "${x:}", "${x:=", "${#x:", "${x ", "${x:-a ", "${x:- ", "${x:-#", "${x:-a#", "${x:-;",
                        "${x:-\n", "${x:-(", "${x:-$@", "\"$\"", "\"$ ", "\"$@", "\"$(a;)$@")
        self.lacks("$", "${", "${x", "${x:", "${x:-", "${x:-a", "${#", "${#x", "\"$", "\"${x", "${1", "${x:-'")

    def test_all_arguments(self):
        every = [("all",)]
        self.reads("$@", run(every))
        self.reads("a $@ $@;", run("a", every, every))
        self.reads("a $@>f", ("run", [], [plain("a"), every], [(1, ">", plain("f"))]))
        self.reads("($@)", ("sub", [(run(every), False)], []))
        self.reads("$@#x", run(every))
        self.reads("for x in $@; do a; end", ("for", "x", [every], [(run("a"), False)], []))
        self.wrong_last("$@a", "$@$", "$@'", "$@\"", "$@\\", "''$@", "$x$@", "\"$@", "case $@", "case a; when $@", "a <:$@")

    def test_outs(self):
        inside = [(run("b"), False)]
        self.word("$(b)", ("out", inside, False))
        self.word("\"$(b;)\"", ("out", inside, True))
        self.word("$(\nb #x\n)", ("out", inside, False))
        self.word("$( (b) )", ("out", [(("sub", inside, []), False)], False))
        self.word("$($(b))", ("out", [(run([("out", inside, False)]), False)], False))
        self.word("\"$(b \"c\")\"", ("out", [(run("b", held("c")), False)], True))
        self.wrong_last("$()", "$( )", "$(;", "$(a}", "$(a;;")
        self.lacks("$(", "$(a", "$(a;", "\"$(a)", "$( ")

    def test_sums(self):
        def total(text, told):
            self.word("$((" + text + "))", ("sum", told, False))
            self.word("\"$((" + text + "))\"", ("sum", told, True))

        one, two, three, x = ("number", 1), ("number", 2), ("number", 3), ("name", "x")
        total("1", one)
        total(" 0 ", ("number", 0))
        total("999999999", ("number", 999999999))
        total("x", x)
        total("abcdefgh", ("name", "abcdefgh"))
        total("-x", ("less", x))
        total("- 1", ("less", one))
        total("-(-1)", ("less", ("less", one)))
        total("1+2*3", ("+", one, ("*", two, three)))
        total("1-2-3", ("-", ("-", one, two), three))
        total("1-(2-3)", ("-", one, ("-", two, three)))
        total("1 - -2", ("-", one, ("less", two)))
        total("1/2*3~x", ("~", ("*", ("/", one, two), three), x))
        total("1<2<=3=x", ("=", ("<=", ("<", one, two), three), x))
        total("1 <= 2+3", ("<=", one, ("+", two, three)))
        total("1<2=3", ("=", ("<", one, two), three))
        total("((1))", one)
        total("(1)+2", ("+", one, two))
        total("-1*2", ("*", ("less", one), two))
        total("-(1*2)", ("less", ("*", one, two)))
        total("1*2+3*x<1+2", ("<", ("+", ("*", one, two), ("*", three, x)), ("+", one, two)))
        self.wrong_last("$(()", "$((1 )a", "$((00", "$((01", "$((1234567890", "$((abcdefghi", "$((1a", "$((1 2", "$((a b",
                        "$((1\n", "$((\n", "$((+", "$((--", "$((- -", "$((1 < =", "$((1==", "$((1*/", "$((1)2", "$((1) ",
                        "$(($", "$((1$", "$((\"", "$((A", "$((1(", "$((x(", "$((1))$@", "$((1 &", "$((1#", "$((1>")
        self.lacks("$((", "$((1", "$((1)", "$((1+", "$((-", "$((1<", "$(((1", "$(((1)", "$(((1))", "$((x ")

    def test_if(self):
        a, b, c = [[(run(name), False)] for name in "abc"]
        self.reads("if a; then b; end", ("if", a, b, None, []))
        self.reads("if a\nthen b\nelse c\nend", ("if", a, b, c, []))
        self.reads("if\n\na;then\nb;else#x\nc;end#y", ("if", a, b, c, []))
        self.reads("if(a);then{ b };end", ("if", [(("sub", a, []), False)], [(("group", b, []), False)], None, []))
        self.reads("if a & then b; end", ("if", [(run("a"), True)], b, None, []))
        self.reads("if if a; then b; end; then c; end", ("if", [(("if", a, b, None, []), False)], c, None, []))
        self.reads("if a then; then b; end", ("if", [(run("a", "then"), False)], b, None, []))
        self.reads("a | if b; then c; end", ("row", [run("a"), ("if", b, c, None, [])]))
        self.wrong_last("if then ", "if;", "if a; end;", "if a; else ", "if a; then end;", "if a; then b; then ", "if a; do ",
                        "if a; then b; else c; else ", "if a; then b; else end ", "if a; then b)", "(if a; then b; )",
                        "if a; then b; end c", "if a | then ", "if a && then ", "if ! then ")
        self.lacks("if", "if ", "if a", "if a;", "if a; then", "if a; then b; en", "if a; then b; end; if a")

    def test_while(self):
        a, b = [[(run(name), False)] for name in "ab"]
        self.reads("while a; do b; end", ("while", a, b, []))
        self.reads("while a\ndo\nb\nend>f", ("while", a, b, [(1, ">", plain("f"))]))
        self.wrong_last("while do ", "while a; do end ", "while a; end ", "while a; then ", "while a; do b; do ", "while;")
        self.lacks("while", "while a", "while a; do", "while a; do b", "while a; do b;")

    def test_for(self):
        a = [(run("a"), False)]
        self.reads("for x in b c; do a; end", ("for", "x", [plain("b"), plain("c")], a, []))
        self.reads("for x in\ndo a; end", ("for", "x", [], a, []))
        self.reads("for x in;\n#y\n do\na; end", ("for", "x", [], a, []))
        self.reads("for  abcdefgh  in  b=1 do 'c' #x\ndo a; end <f", (
            "for", "abcdefgh", [plain("b=1"), plain("do"), held("c")], a, [(0, "<", plain("f"))]))
        self.reads("for in in in; do a; end", ("for", "in", [plain("in")], a, []))
        self.wrong_last("for ;", "for\n", "for X", "for 1", "for #", "for abcdefghi", "for x\n", "for x #", "for x;",
                        "for x i;", "for x y", "for x inb", "for x in\"", "for x in$", "for x in b>", "for x in b|",
                        "for x in b; a", "for x in b; dob", "for x in b; do\"", "for x in b; ;", "for x in b; d ",
                        "for x in b; do end ", "for x\"", "for x(", "for x in 2>", "for x!")
        self.lacks("for x", "for x i", "for x in", "for x in b", "for x in b;", "for x in b; d", "for x in b; do",
                   "for x in b; do a", "for ")

    def test_case(self):
        a, b = [[(run(name), False)] for name in "ab"]
        self.reads("case x; when y; do a; end", ("case", plain("x"), [([plain("y")], a)], []))
        self.reads("case $x\n\nwhen y|'z' |when\n#x\ndo\na;when q;do b\nend >f", (
            "case", [("value", "x", False)],
            [([plain("y"), held("z"), plain("when")], a), ([plain("q")], b)], [(1, ">", plain("f"))]))
        self.reads("case if #x\n#y\nwhen do; do a; end", ("case", plain("if"), [([plain("do")], a)], []))
        self.wrong_last("case ;", "case\n", "case #", "case a b", "case a|", "case a; b", "case a; e", "case a; when ;",
                        "case a; when\n", "case a; when #", "case a; when b c", "case a; when b||", "case a; when b|\n",
                        "case a; when b|#", "case a; when b; c", "case a; when b; do end ", "case a; when b; do c; do ",
                        "case a; when b; do c; when ;", "case a>", "case a; when b&", "case a; whenb", "case a;when\"")
        self.lacks("case a", "case a;", "case a; wh", "case a; when", "case a; when b", "case a; when b |",
                   "case a; when b; do", "case a; when b; do c", "case a; when b; do c; when")

    def test_def(self):
        a = [(run("a"), False)]
        for text in ["def f { a; }", "def f{a}", "def  f  {\na\n}", "def f { a } #x"]:
            self.reads(text, ("def", "f", a))
        self.reads("def abcdefgh{a}|b", ("row", [("def", "abcdefgh", a), run("b")]))
        self.reads("def f{a}&", (("def", "f", a), True))
        self.wrong_last("def F", "def 1", "def ;", "def {", "def abcdefghi", "def f\n", "def f #", "def f(", "def f a",
                        "def f { }", "def f { a } >", "def f-", "def f\"", "def f { a } 2")
        self.lacks("def", "def ", "def f", "def f ", "def f {", "def f { a")

    def test_kept_words(self):
        for word in KEPT:
            self.reads("a " + word, run("a", word))
            self.reads("x=1 " + word, ("run", [("x", plain("1"))], [plain(word)], []))
            self.reads(">f x=1 " + word, ("run", [("x", plain("1"))], [plain(word)], [(1, ">", plain("f"))]))
            self.reads(word + "=1", ("run", [(word, plain("1"))], [], []))
            self.reads(word + "x", run(word + "x"))
            self.reads(word + "''", run([("plain", word), ("held", "")]))
            self.reads("'" + word + "'", run(held(word)))
            self.lacks(word, ">f " + word)
            for sign in " ;\n&|<>(){}#!":
                self.wrong_last(">f " + word + sign)
                if word in ("then", "else", "end", "do", "when"):
                    self.wrong_last(word + sign, "(" + word + sign, "a | " + word + sign)
        self.reads("in", run("in"))

    def test_lines(self):
        self.wrong("a\nb\n ;", (3, 2))
        self.wrong("a\n\nif", (3, 3))
        self.wrong("{\n", (2, 1))
        self.wrong("'\n'\n;", (3, 1))
        self.wrong("a \\\nb", (1, 4))

    def test_what_is_told_is_new(self):
        for text in ["a;a", "x=1 $(b) ${y:-c} | d", "for x in a; do b; end; case a; when b; do c; end"]:
            self.assertTrue(is_new(read_script(text), read_script(text)))


class Viability(unittest.TestCase):
    """No text that is read begins with what is up to the first wrong sign, and each other text can go on."""

    def gone_through(self, tokens, many, beginning=""):
        begun, faults = set(), {}
        for length in range(many + 1):
            for row in itertools.product(tokens, repeat=length):
                text = beginning + "".join(row)
                script, fault = read_again(text), script_fault(text)
                self.assertEqual(script is None, fault is not None, text)
                if script is None:
                    faults[text] = place(text, fault)
                    continue
                self.assertTrue(is_alike(read_script(text), script), text)
                self.assertTrue(is_script(script), text)
                self.check_completed(text)
                begun.update(text[:at] for at in range(len(text) + 1))
        for text, at in faults.items():
            if at < len(text):
                self.assertIsNone(completed(text), text)
                self.assertNotIn(text[:at + 1], begun)
            self.check_completed(text[:at])

    def check_completed(self, text):
        told = completed(text)
        self.assertTrue(told.startswith(text), text)
        self.assertIsNotNone(read_again(told), text)

    def test_whatever_is_begun_comes_to_an_end(self):
        for kept in KEPT:
            for more in ("$x", "$abcdefgh", "$", "${x", "${x:-" + kept, "$(" + kept, "$((x", "\"$x", "\"$abcdefgh\"$abcdefgh"):
                for ahead in ("", "a | ", "{ do", "( ", "x=1 2>&- 2>>${x:-b$y}a ", "if a; then ", "a && ! ", "for x in ",
                              "case ", "case a; when ", "a >", "a 2>", "${x:-", "\"${x:-", "$(", "{ a; } 2>", "y= $@\n"):
                    text = ahead + kept + more
                    if script_fault(text) is None or place(text, script_fault(text)) == len(text):
                        self.check_completed(text)
        self.gone_through(["if", "$", "x", "abcdefg", "{", "}", " "], 5)
        self.gone_through(["do", "$x", "\"", ";", "#", "|", ">"], 4)

    def test_short_texts(self):
        self.gone_through("a2>&- ;#\n", 4)
        self.gone_through("a=<:|& \n\"", 4)
        self.gone_through("${a#:-}\"\\", 4)
        self.gone_through("()$a;{} ", 4)
        self.gone_through("(1-+ )<=", 4, "$((")
        self.gone_through(["if", "then", "end", "else", " ", "a", ";"], 5)
        self.gone_through(["while", "do", " ", "\n", "a", ";", "end", "#"], 4)
        self.gone_through([" in", " a", ";", "\n", "do ", "end", "#", "$@"], 4, "for x")
        self.gone_through([" when", " b", ";", "\n", "do ", "end", "#", "|"], 4, "case a")
        self.gone_through("!&|a (\n", 4)
        self.gone_through(["def", "f", " ", "{", "}", "a", "\n", ";"], 4)
        self.gone_through("'\\a\n\"$`%", 4)

    def test_changed_texts(self):
        maker = Maker(3)
        for _ in range(150):
            text = script_text(maker.script(maker.pick([1, 2])))
            for _ in range(6):
                at = maker.random.randrange(len(text) + 1)
                more = maker.pick(["", "", maker.pick(" \n;&|#$(){}'\"\\<>!`2a=@")])
                self.check(text[:at] + more + text[at + maker.pick([0, 1, 2, 400]):])

    def check(self, text):
        script, fault = read_again(text), script_fault(text)
        self.assertEqual(script is None, fault is not None, text)
        if script is not None:
            self.assertTrue(is_alike(read_script(text), script), text)
            self.check_completed(text)
            return
        at = place(text, fault)
        self.assertEqual(completed(text) is None, at < len(text), text)
        if at < len(text):
            self.assertIsNone(completed(text[:at + 1]))
        self.check_completed(text[:at])

    def test_long_and_deep_texts(self):
        for text in ["(" * 400, "{ " * 200, "$(a " * 100, "${x:-" * 80, "$((" + "(" * 397, "if " * 133, "! ", "a && " * 80]:
            told = completed(text)
            self.assertTrue(told.startswith(text))
            self.assertIsNone(script_fault(told))
            self.assertTrue(is_script(read_script(told)))
            one_form = script_text(read_script(told))
            self.assertEqual(script_text(read_script(one_form)), one_form)
        long_sum = "x=$((" + "+".join(["1"] * 190) + "))"
        script = read_script(long_sum)
        self.assertTrue(is_script(script))
        self.assertEqual(script_text(read_script(script_text(script))), script_text(script))
        chain = " && ".join(["a"] * 100)
        self.assertEqual(script_text(read_script(chain)), chain + "\n")


if __name__ == "__main__":
    unittest.main()
