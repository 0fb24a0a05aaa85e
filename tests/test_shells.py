"""Promises [10.1] to [10.7], [10.9], [10.10], [12.3], [12.4], and the examples [10.11]; of [4.8] what shells say."""

import unittest

from everypipe.actors import actor_of
from everypipe.callings import piece_of
from everypipe.errors import BadScript
from everypipe.givens import program_of
from everypipe.machines import Machine
from everypipe.refusals import BadArguments, BadStrings
from everypipe.scriptmachines import script_machine
from everypipe.shellreading import read_script
from everypipe.shells import shell_actor
from everypipe.shelltrees import is_script
from everypipe.signs import leaving_out
from helper import Maker, any_objects, changed, is_alike, is_new

INT, TERM = ("sign", "int"), ("sign", "term")
ALL = {0: ("own", 0), 1: ("own", 1), 2: ("own", 2)}
NEW_PUT, NEW_TAKE = ("new", 0, "put"), ("new", 0, "take")


def given(*piece):
    return actor_of(program_of(piece))


def shell(text, arguments=()):
    return shell_actor(read_script(text), list(arguments))


def wishes(text, answers, arguments=()):
    """All wishes that a script tells, by some answers."""
    actor = shell(text, arguments)
    return [actor(answers[:at]) for at in range(len(answers) + 1)]


def words(text, answers, arguments=()):
    return [wish[0] for wish in wishes(text, answers, arguments)]


def left(text, tree=None, arguments=(), lines=(), rooms=None, schedule=(), signals=(), many=2000):
    """Status, files without those that have no line, of the machine of a script."""
    machine = script_machine(read_script(text), tree or {}, list(arguments), list(lines), rooms or {(): 1}, signals)
    machine.run(list(schedule), many)
    assert machine.left() == [], (text, machine.deeds()[-1])
    files = machine.files()
    return machine.status((0,)), {name: inside for name, inside in files.items() if inside != []}


class Said(unittest.TestCase):
    """What scripts say to the file out, and their statuses."""

    def said(self, text, said, status=0, **more):
        told, files = left(text, **more)
        self.assertEqual(files.get("out", []), said, text)
        self.assertEqual(told, status, text)

    def test_expansion(self):
        ahead = "x='a b'; y=; for i in "
        self.said(ahead + '$x"$x"$y; do say "<$i>"; end', ["<a>", "<ba b>"])
        self.said(ahead + '$y; do say "<$i>"; end', [])
        self.said(ahead + '"$y"; do say "<$i>"; end', ["<>"])
        self.said(ahead + '$@ $1; do say "<$i>"; end', ["<c d>", "<c>", "<d>"], arguments=["c d"])
        self.said(ahead + '${y:-$x}e; do say "<$i>"; end', ["<a>", "<be>"])
        self.said(ahead + "$((7 / -2))${#x}; do say \"<$i>\"; end", ["<-33>"])
        self.said("say $# $1 $9", ["2 p"], arguments=["p", "q"])
        self.said("say *", ["d err f out"], tree={"f": [], "d": {}})
        self.said("say d/* e/*", ["d/a d/b e/*"], tree={"d": {"b": [], "a": []}})
        self.said("say /*; say ../d*; say a b/*", ["/d /err /out", "../d", "a b/*"], tree={"d": {}})
        self.said("say $((x)) $((1 / 0)); say $?", ["2"])
        self.said("x=a; say $((x)); say $?", ["2"])

    def test_statuses(self):
        self.said("false; say $?; true; say $?; nosuch; say $?; exit 7", ["1", "0", "127"], 7)
        self.said("", [], 0)
        self.said("false", [], 1)
        self.said("( exit 200 )", [], 200)
        self.said("false; exit", [], 1)
        self.said("false; $(true); say $?", ["0"])
        self.said("x=$(false); say $?; x=; say $?", ["1", "0"])
        self.said("$(false) $(true); say $?; say $(false) $?", ["0", "1"])
        self.said("false > f; say $?", ["1"])
        self.said("say $(exit 3)$?; say $?", ["3", "0"])

    def test_sets(self):
        self.said("x=1 y=$x; say $x $y", ["1 1"])
        self.said("x=1; x=2 say $x; say $x", ["1", "1"])
        self.said("def f { say $x; x=5; y=6; }; x=1; x=2 f; say $x $y", ["2", "1 6"])
        self.said("x=2 true; say \"<$x>\"", ["<>"])
        self.said("x=1 x=2 say; say \"<$x>\"", ["", "<>"])
        self.said("x=1 y=$((1/0)); say \"<$x>\" $?", ["<1> 2"])
        self.said("y=1 x=2 z=$((1/0)) true; say \"<$x>\" $?", ["<> 2"])
        self.said("x=3 > f; say $x", ["3"])
        self.said("x='a\nb'; say $x; say \"$x\"", ["a b", "a", "b"])

    def test_turns(self):
        self.assertEqual(left("say a > f; say b >> f; say c 1> g; say d 2>h >&2; say e 1>&-"),
                         (0, {"f": ["a", "b"], "g": ["c"], "h": ["d"]}))
        self.assertEqual(left("{ say a; say b >&3; } 3> f 1>&3"), (0, {"f": ["a", "b"]}))
        self.said("cat < d/f; cat < nofile; say $?; cat < d; say $?; cat <'a b'; say $?", ["u", "1", "1", "1"], tree={"d": {"f": ["u"]}})
        self.said("cat <:'a\nb\n'; cat <:''; wc <:a", ["a", "b", "", "1"])
        self.said("say a > x/y; say $?; say b > /; say $?", ["1", "1"])
        self.said("say a > f > x/y > g; say $?; say *", ["1", "err f out"])
        self.said("{ cat; say no; } < nofile; say $?", ["1"])
        self.said("{ read a; read b; say $b$a; } <:'p\nq'", ["qp"])
        self.said("cat 0>&-; say $? >&9; say u; cat 3<:w 0>&3", ["u", "w"])
        self.said("x=a; while is $x '!=' aaa; do x=a$x; say $x; end > f; cat < f", ["aa", "aaa"])
        self.said("f='p q'; say a > $f; say $?; say a > $((1/0)); say $?", ["1", "2"])
        self.said("if true; then cat; else say n; end <:y; for i in $(cat); do say $i; end <:'1 2'; case $(cat); when k; do say k; end <:k",
                  ["y", "1", "2", "k"])

    def test_lists_and_rows(self):
        self.said("seq 1 9 | grep 3 | head 1", ["3"])
        self.said("yes a | head 2", ["a", "a"])
        self.said("false | true; say $?; true | false; say $?", ["0", "1"])
        self.said("strict on; false | exit 3 | true; say $?; true | true; say $?; strict off; false | true; say $?", ["3", "0", "0"])
        self.said("x=1; { x=2; say a; } | { read x; say $x; }; say $x", ["a", "1"])
        self.said("! true; say $?; ! false; say $?; ! true | false; say $?; ! ( exit 3 ); say $?", ["1", "0", "0", "0"])
        self.said("true && say a || say b; false && say c || say d; false || ( exit 3 ) || say e; say $?", ["a", "d", "e", "0"])
        self.said("false && true; say $?; ( exit 4 ) && true; say $?", ["1", "4"])
        self.said("say a & wait; cat & wait 2; say $?", ["a", "0"], lines=["z"])

    def test_blocks(self):
        self.said("if false; then say a; end; say $?; if true; then false; else true; end; say $?", ["0", "1"])
        self.said("while false; do say a; end; say $?", ["0"])
        self.said("x=1; while is $x '!=' 111; do x=1$x; false; end; say $x $?", ["111 1"])
        self.said("for i in; do say a; end; say $?; for i in a b; do say $i; false; end; say $i $?", ["0", "a", "b", "b 1"])
        self.said("case abc; when b | a*; do say 1; when *; do say 2; end; case x; when y; do say 3; end; say $?", ["1", "0"])
        self.said("case .a/b; when '*'; do say 1; when *[/]?; do say 2; end; case 'a\nb'; when a?b; do false; end; say $?", ["2", "1"])
        self.said("def f { say $? $1 $#; return 5; say no; }; f u v; say $? $#; f; say $?", ["0 u 2", "5 0", "0 0", "5"])
        self.said("say u; false; case $((1/0)); when *; do say a; end; say $?; case a; when $((1/0)); do say b; end; say $?", ["u", "2", "2"])
        self.said("for i in $((1/0)); do say a; end; say $?", ["2"])
        self.said("def f { x=2; def g { say g$1; }; }; f; g 7; say $x; g=$(g q); say $g", ["g7", "2", "gq"])
        self.said("( x=1; def f { say f; }; shift ); f; say $? \"$x\" $#", ["127  1"], arguments=["a"])

    def test_function_words(self):
        self.said("def say { true; }; say a; def nosuch { is b; }; nosuch; exit $#", [], 1, arguments=["x"])
        self.said("def cat { say c; }; cat; seq 1 1 | cat", ["c", "c"])

    def test_loops_left(self):
        self.said("for i in 1 2 3; do is $i = 2 && leave; say $i; end; say $i $?", ["1", "2 0"])
        self.said("for i in 1 2 3; do is $i = 2 && next; say $i; end", ["1", "3"])
        self.said("for i in 1 2; do for j in a b c; do is $j = b && leave; say $i$j; end; end", ["1a", "2a"])
        self.said("for i in 1 2; do for j in a b c; do is $j = b && next 2; say $i$j; end; say no; end", ["1a", "2a"])
        self.said("for i in 1 2; do for j in a b; do leave 9; end; say no; end; say $i$j", ["1a"])
        self.said("leave; say $?; next 2; say $?; leave 0; say $?; leave x; say $?; next 1 1; say $?; leave 256; say $?",
                  ["1", "1", "2", "2", "2", "2"])
        self.said("x=; while x=a$x; is $x = aaa && leave; true; do false; end; say $x $?", ["aaa 1"])
        self.said("x=; while x=a$x; is $x = aaa && leave; true; do true; next; end; say $x $?", ["aaa 0"])
        self.said("x=; while x=a$x; is $x = aa && next; is $x '!=' aaaa; do say $x; end", ["a", "aaa"])
        self.said("def f { leave; say $?; for i in a; do return 3; end; }; for i in 1 2; do f; say $?; end", ["1", "3", "1", "3"])
        self.said("for i in 1 2; do ( leave; say $? ); x=$(next; say $?); say $x; end", ["1", "1", "1", "1"])
        self.said("for i in 1 2; do { leave > f; } > g; end; say a; say *", ["a", "err f g out"])
        self.said("for i in 1 2; do i=7 leave; end; say $i", ["1"])
        self.said("return; say $?; return 5; say $?; def f { { return 4; } > g; }; f; say $?", ["1", "1", "4"])
        self.said("def f { false; return; }; f; say $?; def g { exit 9; }; g; say no", ["1"], 9)
        self.said("def f { ( return 3; say $? ); }; f", ["1"])

    def test_depth(self):
        self.said("def f { x=a$x; f; }; f; say $? ${#x}", ["125 30"])
        self.said("def f { x=a$x; is ${#x} = 30 || f; }; f; say $? ${#x}", ["0 30"])
        self.said("def f { x=a$x; if is ${#x} = 29; then ( f; say $? ${#x} ); else f; end; }; f", ["125 59"])
        self.said("def f { x=a$x; if is a; then { while true; do for i in b; do case a; when a; do f; end; end; leave; end; } end; }; f; say ${#x}".replace("} end", "}; end"),
                  ["30"])

    def test_say_and_read(self):
        self.said("say; say a  b 'c  d'; say ''; say 'a\nb' c; say '" + "x" * 70 + "\ny'", ["", "a b c  d", "", "a", "b c", "x" * 60, "y"])
        self.said("read a; say \"<$a>\" $?; read a b; say \"<$a><$b>\" $?; read a b; say \"<$a><$b>\"; read a b; say \"<$a><$b>\" $?",
                  ["<u  v> 0", "<p><q  r> 0", "<s><>", "<><> 1"], lines=[" u  v ", "  p q  r  ", "s"])
        self.said("read; say $?; read A; say $?; read a B; say $?; read abcdefghi; say $?; cat", ["2", "2", "2", "2", "l"], lines=["l"])
        self.said("read x 0>&-; say $? \"<$x>\"; { read x; say $x $?; } & wait", ["1 <>", "1"], lines=["l"])
        self.said("say a 1>&-; say $?", ["0"])

    def test_is(self):
        for text, status in [("is a = a", 0), ("is a = b", 1), ("is a '!=' b", 0), ("is a '!=' a", 1), ("is 2 less 10", 0), ("is 10 less 2", 1),
                             ("is -3 less ''", 0), ("is '' less ''", 1), ("is a less 2", 2), ("is 1 less 2x", 2), ("is f", 0), ("is ''", 1),
                             ("is", 2), ("is a b", 2), ("is a == b", 2), ("is a = b c", 2), ("is file f", 0), ("is file d", 1),
                             ("is directory d", 0), ("is directory f", 1), ("is file no", 1), ("is file 'a b'", 1), ("is directory ''", 0),
                             ("is directory /d/../.", 0), ("is file", 0), ("is file a b", 2)]:
            self.said(text + "; say $?", [str(status)], tree={"f": [], "d": {}})

    def test_small_words(self):
        self.said("shift; say $? $1; shift; say $?; shift; say $?; shift 1; say $?", ["0 b", "0", "1", "2"], arguments=["a", "b"])
        self.said("def f { shift; say $1; }; f u v; say $1", ["v", "a"], arguments=["a"])
        self.said("x=1; y=2; forget x z; say \"<$x$y>\" $?; forget; say $?; forget X; say $?", ["<2> 0", "2", "2"])
        self.said("strict; say $?; strict maybe; say $?; strict on on; say $?", ["2", "2", "2"])
        self.said("exit x; say $?; exit 256; say $?; exit 1 2; say $?; exit 007", ["2", "2", "2"], 7)
        self.said("return x; say $?; return 1 1; say $?", ["2", "2"])
        self.said("wait; say $?; wait 1; say $?; wait 0; say $?; wait x; say $?; wait 1 2; say $?", ["0", "127", "127", "2", "2"])
        self.said("exit 3 & exit 4 & wait 1; say $?; wait 2; say $?; wait 1; say $?; wait; say $?; wait 3; say $?", ["3", "4", "3", "0", "127"])
        self.said("kill int; say $?; kill hup 1; say $?; kill int x; say $?; kill int 1; say $?; kill int 0; say $?; kill int 1 2; say $?",
                  ["2", "2", "2", "1", "1", "2"])
        self.said("trap; say $?; trap a; say $?; trap 'say a' kill; say $?; trap 'if' int; say $?; trap - int; say $?; trap 'say b' int exit; say $?",
                  ["2", "2", "2", "2", "0", "2"])

    def test_given_words(self):
        self.said("cut x; say $?; cut 0; say $?; head -0 <:a; say $?; head ''; say $?; seq 01 2; grep '['; say $?; cat a; say $?; wc <:'a\nb'",
                  ["127", "127", "0", "127", "1", "2", "127", "127", "2"])
        self.said("seq 1 2 | tee 3 3>f | cat; cat <f; seq 3 5 | paste 3 3<f", ["1", "2", "1", "2", "3 1", "4 2", "5 "])


class Wishes(unittest.TestCase):
    def test_example(self):
        told = wishes("say a | head 1 > f", [None, None, None, 0])
        word, rows, own = told[0]
        (x, one), (y, other) = rows
        self.assertTrue(is_alike((word, one, other, own), (
            "start", {0: ("own", 0), 1: NEW_PUT, 2: ("own", 2)}, {0: NEW_TAKE, 1: ("own", 1), 2: ("own", 2)}, {})))
        self.assertTrue(is_alike(told[1:], [("wait", 0), ("wait", 1), ("ask", 1), ("over", 0)]))
        self.assertTrue(is_alike(y([]), ("open", 10, "f", "cut")))
        self.assertEqual(y([""]), ("become", given("head", 1), {0: ("own", 0), 1: ("own", 10), 2: ("own", 2)}))
        self.assertTrue(is_alike([x([]), x([None])], [("put", 1, "a"), ("over", 0)]))

    def test_programs(self):
        self.assertEqual(wishes("cat <f >>g", ["", "", None, None, None, None, 7]), [
            ("open", 10, "f", "read"), ("open", 11, "g", "add"),
            ("start", [(given("cat"), {0: ("own", 10), 1: ("own", 11), 2: ("own", 2)})], {}), ("close", 10), ("close", 11), ("wait", 0),
            ("ask", 0), ("over", 7)])
        self.assertEqual(wishes("cat", [None]), [("start", [(given("cat"), ALL)], {}), ("wait", 0)])
        self.assertEqual(wishes("cat; cat", [None, None, None, None, 3]), [
            ("start", [(given("cat"), ALL)], {}), ("wait", 0), ("start", [(given("cat"), ALL)], {}), ("wait", 1), ("ask", 1), ("over", 3)])

    def test_outs(self):
        told = wishes("x=$(cat) say a", [None, "l", None, None, None, None])
        word, rows, own = told[0]
        self.assertEqual((word, rows[0][1], own), ("start", {0: ("own", 0), 1: NEW_PUT, 2: ("own", 2)}, {10: NEW_TAKE}))
        self.assertEqual(told[1:], [("take", 10), ("take", 10), ("close", 10), ("wait", 0), ("put", 1, "a"), ("over", 0)])
        self.assertEqual(rows[0][0]([]), ("become", given("cat"), ALL))
        told = wishes("$(a)", [None, None, None, None, 4])
        self.assertEqual(told[1:], [("take", 10), ("close", 10), ("wait", 0), ("ask", 0), ("over", 4)])
        told = wishes("say $(a) $? $?", [None, None, None, None, 4, None])
        self.assertEqual(told[4:], [("ask", 0), ("put", 1, "4 4"), ("over", 0)])
        told = wishes("say > f $(a)$(b)", [None] * 4 + [None] * 4 + ["", None, None])
        self.assertEqual([wish[:2] for wish in told[5:]], [("take", 10), ("close", 10), ("wait", 1), ("open", 10), ("put", 10), ("close", 10),
                                                           ("over", 0)])
        told = wishes("say a > f 3> $(b) 4> $(c)", ["", None, "g", None, None, None, "", None, "h", None, None, None, "", None, None])
        self.assertEqual(told[0], ("open", 10, "f", "cut"))
        self.assertEqual(told[1][1][0][1], {0: ("own", 0), 1: NEW_PUT, 2: ("own", 2)})
        self.assertEqual(list(told[1][2]), [11])
        self.assertEqual(told[6], ("open", 11, "g", "cut"))
        self.assertEqual(told[7][1][0][1], {0: ("own", 0), 1: NEW_PUT, 2: ("own", 2), 3: ("own", 11)})
        self.assertEqual(told[12:], [("open", 12, "h", "cut"), ("put", 10, "a"), ("close", 10), ("close", 11)][:4])
        self.assertTrue(is_alike(list(told[7][1][0][1]), [0, 1, 2, 3]))

    def test_lists_and_looks(self):
        self.assertEqual(wishes("say d/* A/* /x*", [["b", "a"][::-1], None, None]), [
            ("list", "d"), ("list", ""), ("put", 1, "d/a d/b A/* /x*"), ("over", 0)])
        self.assertEqual(wishes("is file ../f; is directory A", ["file"]), [("look", "f"), ("over", 1)])

    def test_subs_and_backs(self):
        told = wishes("( cat; x ) > f; ( cat )", ["", None, None, None, None, None, 5])
        self.assertEqual([wish[0] for wish in told], ["open", "start", "close", "wait", "start", "wait", "ask", "over"])
        self.assertEqual(told[1][1][0][1], {0: ("own", 0), 1: ("own", 10), 2: ("own", 2)})
        child = told[1][1][0][0]
        self.assertEqual(child([]), ("start", [(given("cat"), ALL)], {}))
        self.assertEqual(child([None, None]), ("over", 127))
        self.assertEqual(told[4][1][0][0]([]), ("become", given("cat"), ALL))
        told = wishes("cat 3>&1 & wait; wait 1", [None, None, None, 3])
        self.assertEqual(told[0][1][0][1], {1: ("own", 1), 2: ("own", 2)})
        self.assertEqual(told[1:], [("wait", 0), ("wait", 0), ("ask", 0), ("over", 3)])
        self.assertEqual(told[0][1][0][0]([]), ("become", given("cat"), {1: ("own", 1), 2: ("own", 2), 3: ("own", 1)}))

    def test_children_are_over_as_it_is(self):
        child = wishes("( cat; sort )", [None])[0][1][0][0]
        self.assertEqual([child([None] * many) for many in (2, 4)], [("start", [(given("sort"), ALL)], {}), ("over", ("child", 1))])
        child = wishes("( x & cat )", [None])[0][1][0][0]
        self.assertEqual(child([None] * 3), ("over", ("child", 1)))
        child = wishes("( { cat; } )", [None])[0][1][0][0]
        self.assertEqual(child([])[0], "start")
        child = wishes("( cat & )", [None])[0][1][0][0]
        self.assertEqual(child([])[1][0][1], {1: ("own", 1), 2: ("own", 2)})

    def test_rows(self):
        told = wishes("strict on; a | b | c", [None] * 4 + [0, 3, 0])
        self.assertEqual([table for _, table in told[0][1]], [
            {0: ("own", 0), 1: NEW_PUT, 2: ("own", 2)}, {0: NEW_TAKE, 1: ("new", 1, "put"), 2: ("own", 2)},
            {0: ("new", 1, "take"), 1: ("own", 1), 2: ("own", 2)}])
        self.assertEqual(told[1:], [("wait", 0), ("wait", 1), ("wait", 2), ("ask", 0), ("ask", 1), ("ask", 2), ("over", 3)])
        told = wishes("{ a | b; } 0>&- 1>&-", [None] * 3)
        self.assertEqual([table for _, table in told[0][1]], [{1: NEW_PUT, 2: ("own", 2)}, {0: NEW_TAKE, 2: ("own", 2)}])
        self.assertEqual([list(table) for _, table in told[0][1]], [[1, 2], [0, 2]])

    def test_closings(self):
        self.assertEqual(words("{ say a; } > f 2> g", ["", "", None, None]), ["open", "open", "put", "close", "close"])
        self.assertEqual(wishes("for i in a b; do leave > g; end > f", ["", "", None, None]), [
            ("open", 10, "f", "cut"), ("open", 11, "g", "cut"), ("close", 11), ("close", 10), ("over", 0)])
        self.assertEqual(wishes("{ exit 3 > g; } > f", ["", ""]), [("open", 10, "f", "cut"), ("open", 11, "g", "cut"), ("over", 3)])
        self.assertEqual(wishes("say a > f 2> g", ["", "lacks", None]), [
            ("open", 10, "f", "cut"), ("open", 11, "g", "cut"), ("close", 10), ("over", 1)])
        self.assertEqual(wishes("say a > f > g 2> $((1/0))", ["", "", None, None])[2:], [("close", 10), ("close", 11), ("over", 2)])
        self.assertEqual(wishes("say a <:'u\n\nv' <:''", ["", ""])[:2], [("open", 10, ["u", "", "v"], "lines"), ("open", 11, [], "lines")])

    def test_asking(self):
        self.assertEqual(words("cat && cat", [None, None, 0, None, None, 5]), ["start", "wait", "ask", "start", "wait", "ask", "over"])
        self.assertEqual(words("cat && cat", [None, None, 3]), ["start", "wait", "ask", "over"])
        self.assertEqual(words("! cat", [None, None, 3]), ["start", "wait", "ask", "over"])
        self.assertEqual(words("if cat; then say; end", [None, None, 3]), ["start", "wait", "ask", "over"])
        self.assertEqual(words("while cat; do say; end", [None, None, 0, None]), ["start", "wait", "ask", "put", "start"])
        self.assertEqual(words("cat; cat", [None] * 4), ["start", "wait", "start", "wait", "ask"])
        self.assertEqual(words("cat; say $?$?", [None, None, 3, None]), ["start", "wait", "ask", "put", "over"])

    def test_bound(self):
        loop = "x=; while is ${#x} '!=' %s; do x=a$x; end"
        for many in (497, 498):
            told = wishes(loop.replace("%s", str(many)) + "; say $?", [])
            self.assertEqual(told[0], ("over", 125) if many == 498 else ("put", 1, "0"))
        self.assertEqual(shell("trap 'say e' exit; while is a; do is b; end")([]), ("over", 125))
        self.assertEqual(shell("while is a; do is b; end")([INT, TERM]), ("over", 125))
        self.assertEqual(shell("say a; while is a; do is b; end")([None]), ("over", 125))

    def test_a_thousand_silent_ones(self):
        machine = script_machine(read_script("while is a; do is b <:c; end"), {}, [], [], {(): 1})
        self.assertEqual(machine.run([], 5), [((0,), "over", None, 125)])

    def test_bound_counts_each_command(self):
        loop = "while is ${#x} '!=' %s; do x=a$x; { is a; }; ! is a; is a && is a; if is a; then is a; end; y=; end"
        # The while, then each time 13: is, x=, { }, is, !, is, &&, is, is, if, is, is, y=; at last is, and say.
        for many, ahead, is_done in [(76, 0, True), (76, 8, True), (76, 9, False), (77, 0, False)]:
            text = "is a; " * ahead + loop.replace("%s", str(many)) + "; say"
            self.assertEqual(shell(text)([]), ("put", 1, "") if is_done else ("over", 125))

    def test_equal(self):
        one = shell("x=1; ( say $x ); cat", ["a"])
        self.assertTrue(one == shell("x=1;( say ${x} )\ncat", ("a",)))
        self.assertFalse(one != shell("x=1; ( say $x ); cat", ["a"]))
        self.assertFalse(one == shell("x=1; ( say $x ); cat", []))
        self.assertFalse(one == shell("x=2; ( say $x ); cat", ["a"]))
        self.assertTrue(shell_actor(changed(read_script("say a | b")), []) == shell("say a | b"))
        self.assertTrue(one([]) == shell("x=1; ( say $x ); cat", ["a"])([]))
        child = lambda text: shell(text)([])[1][0][0]
        self.assertTrue(child("( say a; b )") == child("( say a; b )"))
        for other in ["x=1; ( say a; b )", "def f { a; }; ( say a; b )", "strict on; ( say a; b )", "trap '' int; ( say a; b )",
                      "( say a; b ) 3>&1", "( say a; c )"]:
            self.assertFalse(child("( say a; b )") == child(other))
        for thing in any_objects():
            self.assertFalse(one == thing)

    def test_what_is_passed_and_told(self):
        script, arguments = read_script("( say $1 )"), ["a"]
        actor = shell_actor(script=script, arguments=arguments)
        script.clear()
        arguments.append("b")
        answers = [None]
        told = actor(answers)
        self.assertEqual((told, answers), (("wait", 0), [None]))
        self.assertTrue(is_new(actor([]), actor([])))
        actor([])[1].clear()
        self.assertEqual(len(actor(())[1]), 1)

    def test_wrong(self):
        for thing in any_objects():
            if not is_script(thing):
                with self.assertRaises(BadScript) as caught:
                    shell_actor(thing, None)
                self.assertIs(caught.exception.script, thing)
        for arguments in [None, "a", 1, {}]:
            with self.assertRaises(BadArguments) as caught:
                shell_actor([], arguments)
            self.assertEqual(caught.exception.index, 0)
        for argument in [None, 1, "%", ["a"], "\t"]:
            with self.assertRaises(BadArguments) as caught:
                shell_actor([], ["a", "b\n", argument, None])
            self.assertEqual(caught.exception.index, 2)


class Traps(unittest.TestCase):
    def test_without_one(self):
        self.assertEqual(wishes("say a", [INT, INT, TERM]), [("put", 1, "a"), ("over", 130), ("over", 130), ("over", 143)])
        self.assertEqual(shell("say a")([None, TERM]), ("over", 143))
        self.assertEqual(shell("say a")([INT, TERM]), ("over", 143))
        self.assertEqual(shell("{ say a; } > f")(["", INT]), ("over", 130))

    def test_with_one(self):
        text = "trap 'say t; shift' int; shift; say $? > f; say $?"
        self.assertEqual(wishes(text, [INT, None, "", INT, None, None, None, None]), [
            ("open", 10, "f", "cut"), ("put", 1, "t"), ("open", 10, "f", "cut"), ("put", 10, "1"), ("put", 10, "t"), ("put", 10, "1"),
            ("close", 10), ("put", 1, "0"), ("over", 0)])
        self.assertEqual(wishes("trap 'say t' int", [INT, None, INT, None]), [
            ("over", 0), ("put", 1, "t"), ("over", 0), ("put", 1, "t"), ("over", 0)])

    def test_no_loop_or_function_around(self):
        text = "trap 'leave; say $?; return; say $?' term; def f { for i in a; do say b; end; }; f"
        self.assertEqual(wishes(text, [TERM, None, None, None]), [
            ("put", 1, "b"), ("put", 1, "1"), ("put", 1, "1"), ("put", 1, "b"), ("over", 0)])

    def test_values_and_children(self):
        self.assertEqual(wishes("trap 'x=2' int; x=1; say $x; say $x", [INT, None])[1:], [("put", 1, "1"), ("put", 1, "2")])
        told = wishes("trap 'x=2' int; x=1; ( say $x )", [INT])
        self.assertEqual([wish[1][0][0]([]) for wish in told], [("put", 1, "1"), ("put", 1, "2")])
        told = wishes("trap 'trap \"\" int' term; cat; sort", [TERM, None, None])
        self.assertEqual(told[0], ("start", [(given("cat"), ALL)], {}))
        self.assertEqual(told[1], ("start", [(leaving_out(given("cat"), ["int"]), ALL)], {}))

    def test_signs_that_come_meanwhile(self):
        text = "trap 'say t; say u' int; trap 'say v' term; say a"
        self.assertEqual(wishes(text, [INT, TERM, INT, INT, TERM, None, None, None, None, None, None]), [
            ("put", 1, "a"), ("put", 1, "t"), ("put", 1, "t"), ("put", 1, "t"), ("put", 1, "t"), ("put", 1, "t"), ("put", 1, "u"),
            ("put", 1, "v"), ("put", 1, "t"), ("put", 1, "u"), ("put", 1, "a"), ("over", 0)])
        self.assertEqual(wishes("trap 'say t' int; say a", [INT, TERM, None])[2:], [("put", 1, "t"), ("over", 143)])
        self.assertEqual(wishes("trap 'trap \"\" term; say t' int; say a", [INT, TERM, None, None])[2:], [
            ("put", 1, "t"), ("put", 1, "a"), ("over", 0)])

    def test_an_exit_within_one(self):
        text = "trap 'say t; exit 4' int; trap 'say e $?' exit; say a"
        self.assertEqual(wishes(text, [INT, TERM, None, TERM, None, INT]), [
            ("put", 1, "a"), ("put", 1, "t"), ("put", 1, "t"), ("put", 1, "e 4"), ("put", 1, "e 4"), ("over", 4), ("over", 4)])
        self.assertEqual(wishes("trap 'exit 4' int; say a", [INT, TERM, INT])[1:], [("over", 4)] * 3)

    def test_exit(self):
        self.assertEqual(wishes("trap 'say e $?; is b = c' exit; exit 3", [None, INT]), [("put", 1, "e 3"), ("over", 3), ("over", 3)])
        self.assertEqual(wishes("trap 'say e; exit 5' exit; exit 3", [INT, None]), [("put", 1, "e"), ("put", 1, "e"), ("over", 5)])
        self.assertEqual(wishes("trap 'say e $?' exit; say a", [TERM, None]), [("put", 1, "a"), ("put", 1, "e 143"), ("over", 143)])
        self.assertEqual(wishes("trap 'say e $?' exit; cat", [None, None, 6, None]), [
            ("start", [(given("cat"), ALL)], {}), ("wait", 0), ("ask", 0), ("put", 1, "e 6"), ("over", 6)])
        self.assertEqual(wishes("trap 'say e' exit; trap - exit; trap 'say f' exit; trap '' exit", []), [("over", 0)])
        self.assertEqual(wishes("trap 'say e' exit; { exit 2; } > f", ["", None])[1:], [("put", 10, "e"), ("over", 2)])
        child = shell("( trap 'say e $?' exit; cat )")([])[1][0][0]
        self.assertEqual([child([None, None][:many]) for many in (0, 1)], [("start", [(given("cat"), ALL)], {}), ("wait", 0)])
        self.assertEqual([child([None, None, 3, None][:many]) for many in (2, 3, 4)], [("ask", 0), ("put", 1, "e 3"), ("over", ("child", 0))])

    def test_left_out(self):
        text = "trap '' int; cat; ( trap - int; sort ); trap 'say t' int; wc"
        told = wishes(text, [INT, None, INT, None, None, None, None])
        deaf = leaving_out(given("cat"), ["int"])
        self.assertEqual(told[:4], [("start", [(deaf, ALL)], {}), ("start", [(deaf, ALL)], {}), ("wait", 0), ("wait", 0)])
        child = told[4][1][0][0]
        self.assertEqual(child([INT]), ("over", 130))
        self.assertEqual(child([]), ("start", [(given("sort"), ALL)], {}))
        self.assertEqual(told[6], ("start", [(given("wc"), ALL)], {}))
        child = shell("trap '' term; trap '' int; ( say a; say b )")([])[1][0][0]
        self.assertEqual(child([INT, TERM, None, INT]), ("put", 1, "b"))
        child = shell("trap '' term; ( cat )")([])[1][0][0]
        self.assertEqual(child([]), ("become", leaving_out(given("cat"), ["term"]), ALL))
        child = shell("trap 'say t' term; ( say a; say b )")([])[1][0][0]
        self.assertEqual(child([TERM]), ("over", 143))

    def test_kill(self):
        self.assertEqual(wishes("cat & kill term 1; say $?; kill int 2; say $?", [None, None, None, None]), [
            ("start", [(shell("cat &")([])[1][0][0], {1: ("own", 1), 2: ("own", 2)})], {}), ("signal", 0, "term"), ("put", 1, "0"),
            ("put", 1, "1"), ("over", 0)])
        self.assertEqual(left("{ trap 'say t > f; exit 3' term; while true; do true; end; } & true; kill term 1; wait 1", schedule=[0] * 4)[0], 3)
        self.assertEqual(left("yes > f & kill kill 1; wait 1")[0], 137)

    def test_while_something_is_left(self):
        text = "trap 'for i in u v; do leave; end; say $i' int; for i in a b; do leave > f; end; say $i"
        self.assertEqual(wishes(text, ["", INT, None, None, None]), [
            ("open", 10, "f", "cut"), ("close", 10), ("put", 1, "u"), ("close", 10), ("put", 1, "u"), ("over", 0)])

    def test_depth_is_counted_anew(self):
        text = "trap 'g' int; def g { y=b$y; g; }; def f { x=a$x; if is ${#x} = 30; then say $x; else f; end; }; f; say ${#y}"
        self.assertEqual(wishes(text, [INT, None, None])[2:], [("put", 1, "30"), ("over", 0)])


class Callings(unittest.TestCase):
    def test_pieces(self):
        for text, piece in [
            ("cat", ("cat",)), ("cat a", None), ("tee 3", ("tee", 3)), ("tee 031", ("tee", 31)), ("tee 2", None), ("tee 32", None), ("cut 1", ("cut", 1)),
            ("cut 0", None), ("uniq", ("uniq",)), ("grep a|b", ("grep", ("either", ("of", "a"), ("of", "b")))), ("grep [", None),
            ("head 0", ("head", 0)), ("head -1", None), ("head -0", ("head", 0)), ("head +1", None), ("head x", None), ("tail 100", ("tail", 100)),
            ("sort", ("sort",)), ("wc", ("wc",)), ("paste 9", ("paste", 9)), ("seq -5 07", ("seq", -5, 7)), ("seq 1", None), ("yes y", ("yes", "y")),
            ("true", ("true",)), ("false", ("false",)), ("yes", None), ("other", None), ("", None)]:
            self.assertTrue(is_alike(piece_of(text.split()), piece), text)
            self.assertTrue(is_alike(piece_of(strings=tuple(text.split())), piece), text)
        for strings, piece in [(["yes", ""], ("yes", "")), (["yes", "a\n"], None), (["yes", "x" * 61], None), (["head", ""], None),
                               (["grep", ""], None), (["grep", "()"], ("grep", ("empty",))), (["head", " 1"], None), (["seq", "", "1"], None),
                               (["yes", "%"], None), (["\u00e9"], None), (["head", "\u0661"], None)]:
            self.assertTrue(is_alike(piece_of(strings), piece), strings)

    def test_wrong(self):
        for thing in [None, 1, "cat", {}, True]:
            with self.assertRaises(BadStrings) as caught:
                piece_of(thing)
            self.assertEqual(caught.exception.index, 0)
        for thing in [None, 1, ["a"], True]:
            with self.assertRaises(BadStrings) as caught:
                piece_of(["a", "b", thing, None])
            self.assertEqual(caught.exception.index, 2)


class ItHolds(unittest.TestCase):
    def scripts(self, seed, many):
        maker = Maker(seed)
        lines = ["say a", "x=$1", "read x y", "cat", "head 1", "say $x > f", "cat < f", "( say b; exit 3 )", "say $(cat; say c)", "false", "x=$(head 1)",
                 "{ say d; cat; } | sort", "seq 1 3 | { read x; say $x; }", "say e &", "wait", "wait 1", "is file f", "f u v", "for i in p q; do say $i$x; done=1; end",
                 "while read x; do say \"<$x>\"; is $x = m && leave; end", "if is $x; then say y; else say n; end", "trap 'say t' int", "trap '' term",
                 "trap 'say e' exit", "kill int 1", "say *", "strict on", "case $x; when [lm]; do say k; when *; do false; end", "! cat <:z", "shift", "yes q | head 2",
                 "x=5 y=$? f $x", "tee 3 3>g", "paste 3 3<:'1\n2'", "false || exit 4"]
        for _ in range(many):
            body = "; ".join(maker.pick(lines) for _ in range(maker.random.randint(1, 5))).replace("&;", "&")
            yield maker, "def f { say $1 $x; read x; }; " + body

    def wrapped(self, actor):
        """The same actor, of which only what it tells is known."""
        def wish(answers):
            told = actor(answers)
            if told[0] == "start":
                return ("start", [(self.wrapped(child), table) for child, table in told[1]], told[2])
            return (told[0], self.wrapped(told[1]), told[2]) if told[0] == "become" else told
        return wish

    def test_wishes_hang_on_answers_alone(self):
        for maker, text in self.scripts(1, 250):
            actor = shell(text, ["r", "s"])
            leads = {0: ("lines", ["l", "m n"]), 1: ("file", "out", "add"), 2: ("file", "err", "add")}
            signals = [((0,), maker.random.randrange(12), maker.pick(["int", "term"]))] if maker.chance(50) else []
            schedule = [maker.random.randrange(5) for _ in range(maker.random.randrange(40))]
            room = maker.pick([1, 2])
            one = Machine({"f": ["o"]}, [(actor, leads)], {(): room}, signals)
            two = Machine({"f": ["o"]}, [(self.wrapped(actor), leads)], {(): room}, signals)
            self.assertEqual(one.run(schedule, 120), two.run(schedule, 120), text)
            again = one.copy()
            self.assertEqual(again.run(schedule, 60), one.run(schedule, 60))

    def test_children_change_nothing_of_their_starter(self):
        for inside in ["x=2", "shift", "def f { say g; }", "forget x", "strict on", "trap 'say t' int", "read x"]:
            for around in ["( %s )", "y=$(%s)", "%s &\nwait", "true | %s", "%s | true"]:
                text = "x=1; def f { say f; }; " + around.replace("%s", inside) + "; f; say $x $1 $#; false | true; say $?"
                self.assertEqual(left(text, arguments=["u", "v"])[1]["out"], ["f", "1 u 2", "0"], text)

    def test_over_behind_its_children(self):
        for maker, text in self.scripts(2, 200):
            if "&" in text or "kill" in text:
                continue
            machine = script_machine(read_script(text), {"f": ["o"]}, ["r"], ["l", "m"], {(): 1})
            for _ in range(400):
                able = machine.can()
                if not able:
                    break
                machine.step(maker.pick(able))
                for name in machine.processes():
                    if machine.status(name) is not None and machine.deeds()[-1][1] == "over":
                        for other in machine.processes():
                            if other[:len(name)] == name and other != name and machine.deeds()[-1][0] == name:
                                self.assertIsNotNone(machine.status(other), text)


if __name__ == "__main__":
    unittest.main()
