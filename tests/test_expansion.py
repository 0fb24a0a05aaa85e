"""Promises [4.1], [4.2], [4.5], [4.6], and the example [4.8]."""

import unittest

from everypipe.errors import BadAnswers, BadScope, BadShellWord, BadWords
from everypipe.expansion import asks, assigned, expanded, glob_of
from everypipe.fields import parted
from everypipe.globs import is_glob
from everypipe.shellreading import read_script
from everypipe.shelltrees import quoted
from helper import Maker, SIGNS, any_objects, changed, is_alike, is_new

SCOPE = ({"x": "a b", "y": ""}, ["c d"])
EMPTY_SCOPE = ({}, [])
ONE, SOME = ("one",), ("some",)
WRONG_SCOPES = [None, 1, "ab", (), ({},), ({}, [], 1), ([], []), ({}, {}), ({}, None), ({}, "a"), ({"A": ""}, []), ({"": ""}, []),
                ({"x": 1}, []), ({"x": "%"}, []), ({1: ""}, []), ({}, [1]), ({}, ["\t"]), ({}, [["a"]]), {}, True,
                ({"abcdefghi": ""}, []), ({("x",): ""}, [])]
ALL_WORD = [("all",)]


def words_of(text):
    """The words of a run; e stands ahead, so that none is a set or kept."""
    return read_script("e " + text)[0][0][2][1:]


def word_of(text):
    return words_of(text)[0] if text else []


def list_of(text):
    return read_script(text)


class Answering:
    """Answers needs of paths as a tree of names would, and others by what is handed."""

    def __init__(self, listings, outs=(), statuses=()):
        self.listings = listings
        self.outs = list(outs)
        self.statuses = list(statuses)

    def answer(self, need):
        if need[0] == "list":
            return self.listings.get(need[1])
        return self.outs.pop(0) if need[0] == "out" else self.statuses.pop(0)

    def expanded(self, words, scope):
        """What words come to at last, and all needs with their answers."""
        needs, answers = [], []
        while True:
            told = expanded(words, scope, answers)
            if told[0] != "needs":
                return told, needs, answers
            needs.append(told[1])
            answers.append(self.answer(told[1]))


class Words(unittest.TestCase):
    def comes_to(self, text, strings, scope=SCOPE, answers=()):
        words = words_of(text) if text else []
        for told in (expanded(words, scope, list(answers)), expanded(changed(words), changed(scope), changed(list(answers)))):
            self.assertTrue(is_alike(told, ("words", strings)), (text, told))

    def needs(self, text, need, answers=(), scope=SCOPE):
        words = words_of(text)
        for told in (expanded(words, scope, answers), expanded(changed(words), changed(scope), tuple(answers))):
            self.assertTrue(is_alike(told, ("needs", need)), (text, told))
            self.assertTrue(is_new(told, words))

    def test_example(self):
        self.comes_to("$x\"$x\"$y", ["a", "ba b"])
        self.comes_to("$y", [])
        self.comes_to("\"$y\"", [""])
        self.comes_to("$@ $1", ["c d", "c", "d"])
        self.comes_to("${y:-$x}e", ["a", "be"])
        self.comes_to("$((7 / -2))${#x}", ["-33"])

    def test_values(self):
        scope = ({"x": " a\nb ", "y": "", "z": "a"}, ["p", "", "q r"])
        for text, strings in [
                ("", []), ("a b", ["a", "b"]), ("'a b'\"c\"\\ ", ["a bc "]), ("$x", ["a", "b"]), ("\"$x\"", [" a\nb "]),
                ("c$x", ["c", "a", "b"]), ("c${x}d", ["c", "a", "b", "d"]), ("$z$z", ["aa"]), ("$q", []), ("$q$y", []),
                ("''$y", [""]), ("$y''", [""]), ("$x''", ["a", "b", ""]), ("\"$y\"$x", ["", "a", "b"]), ("\"$q\"", [""]),
                ("$1$3", ["pq", "r"]), ("$2", []), ("\"$2\"", [""]), ("$4", []), ("\"$9\"", [""]), ("$#", ["3"]), ("\"$#\"a", ["3a"]),
                ("${#x}", ["5"]), ("${#q}${#3}", ["03"]), ("$@", ["p", "", "q r"]), ("a $@ b", ["a", "p", "", "q r", "b"]),
                ("$((3*-4))", ["-12"]), ("\"$((1 < 2))\"", ["1"]), ("$((q))", ["0"])]:
            self.comes_to(text, strings, scope)
        self.comes_to("$@", [], EMPTY_SCOPE)
        self.comes_to("a $@", ["a"], EMPTY_SCOPE)
        self.comes_to("$@", ["one"], ({}, ["one"]))
        self.comes_to("$@", ["*", "$x"], ({}, ["*", "$x"]))

    def test_elses(self):
        for text, strings in [
                ("${x:-c}", ["a", "b"]), ("\"${x:-c}\"", ["a b"]), ("${y:-c' 'd}", ["c d"]), ("${q:-}", []),
                ("\"${q:-}\"", [""]), ("\"${q:-$x}\"", ["a b"]), ("${q:-\"$x\"}", ["a b"]), ("${q:-$x$x}", ["a", "ba", "b"]),
                ("\"${q:-$y}\"", [""]), ("${q:-$y}", []), ("${q:-''}", [""]), ("${1:-e}", ["c", "d"]), ("${2:-e}", ["e"]),
                ("\"${q:-${z:-}}\"", [""]), ("${q:-${z:-f}}", ["f"])]:
            self.comes_to(text, strings)
        self.needs("${q:-$?}", ("status",))
        self.needs("\"${y:-$(a)}\"", ("out", list_of("a")))
        self.comes_to("${x:-$?$(a)}", ["a", "b"])
        self.comes_to("\"${q:-$?}\"", ["7"], answers=[7])

    def test_what_is_held_of_elses(self):
        scope = ({"g": "* b"}, [])
        for text in ["\"${g:-a}\"", "\"${q:-$g}\"", "${q:-\"$g\"}", "\"${q:-*' 'b}\""]:
            self.comes_to(text, ["* b"], scope)
        self.needs("${g:-a}", ("list", ""), scope=scope)
        self.needs("${q:-*}", ("list", ""), scope=scope)
        self.comes_to("\"${q:-*}\"", ["*"], scope)
        self.comes_to("\"$g\"\"$(a)\"", ["* b?"], scope, [["?"]])
        self.needs("\"$(a)\"$(a)", ("list", ""), [["?"], ["?"]])
        self.comes_to("\"$(a)$((2))${#g}\"", ["*23"], scope, [["*"]])

    def test_lists_are_told_anew(self):
        maker = Maker(17)
        for _ in range(150):
            pairs = maker.list(2)
            word = [("out", pairs, maker.chance(50))]
            for one in (word, changed(word)):
                for told in (expanded([one], SCOPE, []), assigned(one, SCOPE, []), glob_of(one, SCOPE, [])):
                    self.assertTrue(is_alike(told, ("needs", ("out", pairs))))
                    self.assertTrue(is_new(told, word, one))

    def test_outs(self):
        need = ("out", [(("run", [], [[("plain", "a")]], []), False)])
        self.needs("$(a)", need)
        self.needs("b$(a)$(c)", ("out", list_of("c")), [["x"]])
        for lines, open_strings, held in [
                ([], [], ""), ([""], [], ""), (["a"], ["a"], "a"), (["a b", "c"], ["a", "b", "c"], "a b\nc"),
                (["", "a", "", ""], ["a"], "\na"), (["", ""], [], ""), ([" a "], ["a"], " a ")]:
            self.comes_to("$(a)", open_strings, answers=[lines])
            self.comes_to("\"$(a)\"", [held], answers=[lines])
        self.comes_to("x$(a)y", ["xb", "cy"], answers=[["b", "c", ""]])
        self.comes_to("$(a)$(b)", ["12"], answers=[["1"], ["2"]])
        self.comes_to("\"$(a)\"'*'", ["*"], answers=[[]])

    def test_statuses(self):
        self.needs("a$?", ("status",))
        self.needs("$?$?", ("status",), [1])
        self.comes_to("$?$?", ["10"], answers=[1, 0])
        self.comes_to("\"$?\" ${q:-$?}", ["255", "3"], answers=[255, 3])

    def test_sums(self):
        scope = ({"x": "q", "y": "r"}, [])
        self.assertTrue(is_alike(expanded(words_of("a$((1/0))"), scope, []), ("refused", ("nought",))))
        self.assertTrue(is_alike(expanded(words_of("$((y)) $((x))"), scope, []), ("refused", ("number", "y"))))
        self.assertTrue(is_alike(expanded(words_of("${q:-$((x))}"), scope, []), ("refused", ("number", "x"))))
        self.assertEqual(expanded(words_of("${x:-$((x))}"), scope, []), ("words", ["q"]))
        self.needs("$? $((x))", ("status",), scope=scope)
        self.assertEqual(expanded(words_of("$? $((x))"), scope, [0]), ("refused", ("number", "x")))
        self.assertEqual(expanded(words_of("$((x)) $?"), scope, ["no answer"]), ("refused", ("number", "x")))
        self.assertEqual(expanded(words_of("* $((x))"), scope, [None]), ("refused", ("number", "x")))

    def test_answers(self):
        self.comes_to("a", ["a"], answers=[None, "x", 3])
        self.comes_to("$?", ["3"], answers=[3, "x"])
        for text, wrong in [
                ("$?", [256, -1, True, None, "1", [1]]), ("$(a)", [None, 1, "a", ["%"], ["x" * 61], [1], {}, [["a"]]]),
                ("*", [1, "a", ["b", "a"], ["a", "a"], ["%"], [None], {}, False])]:
            for answer in wrong:
                for words, answers, index in [(text, [answer], 0), ("$? " + text, [0, answer, None], 1)]:
                    with self.assertRaises(BadAnswers) as caught:
                        expanded(words_of(words), SCOPE, answers)
                    self.assertEqual(caught.exception.index, index)
        for thing in [None, 1, "a", {}, True]:
            with self.assertRaises(BadAnswers) as caught:
                expanded(words_of("a"), SCOPE, thing)
            self.assertEqual(caught.exception.index, 0)
            for function in (assigned, glob_of):
                with self.assertRaises(BadAnswers) as caught:
                    function(word_of("a"), SCOPE, thing)
                self.assertEqual(caught.exception.index, 0)

    def test_wrong(self):
        right = word_of("a")
        for thing in any_objects():
            if thing in ([], (), [[("held", "a")]]):
                continue
            with self.assertRaises(BadWords) as caught:
                expanded(thing, None, None)
            self.assertEqual(caught.exception.index, 0)
            if thing in ([("held", "")],):
                continue
            for function in (lambda words: expanded(words, None, None), asks):
                with self.assertRaises(BadWords) as caught:
                    function([right, ALL_WORD, thing, None])
                self.assertEqual(caught.exception.index, 2)
        for words in [[right, []], [right, [("plain", "")]], [right, [("all",), ("all",)]]]:
            with self.assertRaises(BadWords) as caught:
                expanded(words=words, scope=SCOPE, answers=[])
            self.assertEqual(caught.exception.index, 1)
        for scope in WRONG_SCOPES:
            for call in (lambda: expanded([right], scope, None), lambda: assigned(right, scope, None),
                         lambda: glob_of(right, scope, None)):
                with self.assertRaises(BadScope) as caught:
                    call()
                self.assertIs(caught.exception.scope, scope)


class Globs(unittest.TestCase):
    def listed(self, text, listings, strings, paths, scope=SCOPE):
        told, needs, answers = Answering(listings).expanded(words_of(text), scope)
        self.assertTrue(is_alike(told, ("words", strings)), (text, told))
        self.assertTrue(is_alike(needs, [("list", path) for path in paths]), (text, needs))
        self.assertEqual(expanded(words_of(text), scope, [*answers, 1, None]), told)

    def test_which_are_globs(self):
        for text in ["*", "?", "[a]", "a*", "\"a\"?", "$g", "[a", "a[", "[", "[]", "[\"a]\""]:
            scope = ({"g": "*"}, [])
            if text in ("[a", "a[", "[", "[]", "[\"a]\""):
                self.listed(text, {}, [text.replace("\"", "")], [], scope)
            else:
                self.listed(text, {}, ["*" if text == "$g" else text.replace("\"", "")], [""], scope)
        for text in ["'*'", "\\?", "\"[a]\"", "\"$g\"", "]", "a]", "$@", "\\[a]"]:
            self.assertEqual(expanded(words_of(text), ({"g": "*"}, ["*"]), [])[0], "words")

    def test_paths(self):
        names = ["a", "b", "bx", "c"]
        self.listed("*", {"": names}, names, [""])
        self.listed("b*", {"": names}, ["b", "bx"], [""])
        self.listed("?", {"": names}, ["a", "b", "c"], [""])
        self.listed("[ab]", {"": names}, ["a", "b"], [""])
        self.listed("d*", {"": names}, ["d*"], [""])
        self.listed("*", {}, ["*"], [""])
        self.listed("'b'*", {"": names}, ["b", "bx"], [""])
        self.listed("$g", {"": names}, ["b", "bx"], [""], ({"g": "b*"}, []))
        self.listed("$g", {"": names}, ["b", "bx", "c"], ["", ""], ({"g": "b* c*"}, []))
        self.listed("/*", {"/": names}, ["/a", "/b", "/bx", "/c"], ["/"])
        self.listed("//b*", {"/": names}, ["//b", "//bx"], ["/"])
        self.listed("///b*", {"/": names}, ["///b", "///bx"], ["/"])
        self.listed("a/b*", {"a": names}, ["a/b", "a/bx"], ["a"])
        self.listed("/a/b*", {"/a": names}, ["/a/b", "/a/bx"], ["/a"])
        self.listed("a//b*", {"a": names}, ["a//b", "a//bx"], ["a"])
        self.listed("/a//b*", {"/a": names}, ["/a//b", "/a//bx"], ["/a"])
        self.listed("../b*", {"..": names}, ["../b", "../bx"], [".."])
        self.listed("'a b'/b*", {"a b": names}, ["a b/b", "a b/bx"], ["a b"])
        self.listed("b*/", {"": names}, ["b/", "bx/"], [""])
        self.listed("b*//", {"": names}, ["b//", "bx//"], [""])
        self.listed("b*/c", {"": names, "b": ["c"], "bx": ["d"]}, ["b/c"], ["", "b", "bx"])
        self.listed("b*/c", {"": names, "bx": ["c"]}, ["bx/c"], ["", "b", "bx"])
        self.listed("b*/c/", {"": names, "b": ["c"], "bx": ["c"]}, ["b/c/", "bx/c/"], ["", "b", "bx"])
        self.listed("b*//c", {"": names, "b": ["c"], "bx": ["c"]}, ["b//c", "bx//c"], ["", "b", "bx"])
        self.listed("b*/c/?", {"": names, "b": ["c"], "bx": ["c"], "bx/c": ["z"]}, ["bx/c/z"], ["", "b", "bx", "b/c", "bx/c"])
        self.listed("*/*", {"": ["a", "a1"], "a": ["z"], "a1": ["b"]}, ["a/z", "a1/b"], ["", "a", "a1"])
        self.listed("*/*", {"": ["a", "a-"], "a": ["z"], "a-": ["b"]}, ["a-/b", "a/z"], ["", "a", "a-"])
        self.listed("*/*", {"": names}, ["*/*"], ["", "a", "b", "bx", "c"])
        self.listed("d*/*", {"": names}, ["d*/*"], [""])
        self.listed("*/..", {"": ["a"], "a": ["b"]}, ["*/.."], ["", "a"])
        self.listed("[a/b]", {"": names}, ["[a/b]"], [])
        self.listed("a/[", {}, ["a/["], [])
        self.listed("a/[/*", {"a/[": ["q"]}, ["a/[/q"], ["a/["])
        self.listed("b* c*", {"": names}, ["b", "bx", "c"], ["", ""])

    def test_points(self):
        names = [".", ".a", "a", "a.b"]
        self.listed("*", {"": names}, ["a", "a.b"], [""])
        self.listed(".*", {"": names}, [".", ".a"], [""])
        self.listed("[.]*", {"": names}, ["[.]*"], [""])
        self.listed("?a", {"": names}, ["?a"], [""])
        self.listed("*.b", {"": names}, ["a.b"], [""])
        self.listed("a*/.a", {"": ["ab"], "ab": [".a"]}, ["ab/.a"], ["", "ab"])

    def test_items(self):
        def glob(text, *items, scope=EMPTY_SCOPE):
            for word in (word_of(text), changed(word_of(text))):
                told = glob_of(word, scope, [])
                self.assertTrue(is_alike(told, ("glob", list(items))), (text, told))
                self.assertTrue(is_glob(told[1]))
                self.assertTrue(is_new(told, word))

        glob("")
        glob("''")
        glob("a/b", "a", "/", "b")
        glob("*?'*?['", SOME, ONE, "*", "?", "[")
        glob("[ba]", ("of", "ab"))
        glob("[aba]c", ("of", "ab"), "c")
        glob("[a]]", ("of", "a"), "]")
        glob("[]", "[", "]")
        glob("[]a]", ("of", "]a"))
        glob("[[]", ("of", "["))
        glob("[]]", ("of", "]"))
        glob("[a", "[", "a")
        glob("[*]", ("of", "*"))
        glob("['a']", ("of", "a"))
        glob("[a'] *']", ("of", " *]a"))
        glob("[a']'", "[", "a", "]")
        glob("'[a]'", "[", "a", "]")
        glob("\\[a]", "[", "a", "]")
        glob("ab]c", "a", "b", "]", "c")
        glob("a]b]", "a", "]", "b", "]")
        glob("['\n']", ("of", " "))
        glob("'\n'", " ")
        glob("[a\"$x\"]", ("of", "ab"), scope=({"x": "ab"}, []))
        glob("$x", SOME, " ", ONE, " ", scope=({"x": "* ?\n"}, []))
        glob("\"$x\"", "*", scope=({"x": "*"}, []))
        glob("[a/]", ("of", "/a"))
        glob("a-z", "a", "-", "z")
        every = SIGNS.replace("]", "")
        glob("[]$x]", ONE, scope=({"x": every}, []))
        glob("[$x]", ("of", every), scope=({"x": every}, []))
        glob("[]$x]", ("of", SIGNS[1:]), scope=({"x": every[1:]}, []))
        glob("[]$x]", ONE, scope=({"x": "\n" + every[1:]}, []))

    def test_lots_in_fields(self):
        self.listed("[]$x]", {"": ["a", "b"]}, ["a", "b"], [""], ({"x": SIGNS.replace("]", "").replace(" ", "").replace("/", "")}, []))
        self.listed("['\n'a]?", {"": [" b", "ab", "b"]}, [" b", "ab"], [""])
        self.listed("'\n'*", {"": [" b", "b"]}, [" b"], [""])
        self.listed("'\n'/*", {"\n": ["b"]}, ["\n/b"], ["\n"])


class OneString(unittest.TestCase):
    def test_assigned(self):
        scope = ({"x": " a  b ", "y": ""}, ["p q"])
        for text, string in [
                ("", ""), ("a", "a"), ("$x", " a  b "), ("c$x\"$x\"", "c a  b  a  b "), ("*[a]", "*[a]"), ("$y", ""), ("''", ""),
                ("$1$#", "p q1"), ("${y:-a$x}", "a a  b "), ("\"${y:-}\"", ""), ("$((1-2))", "-1"), ("${#x}", "6"), ("'a\nb'", "a\nb")]:
            word = word_of(text)
            for told in (assigned(word, scope, []), assigned(word=changed(word), scope=changed(scope), answers=())):
                self.assertTrue(is_alike(told, ("text", string)), (text, told))

    def test_needs(self):
        for function, kind in ((assigned, "text"), (glob_of, "glob")):
            word = word_of("$(a)$?")
            self.assertTrue(is_alike(function(word, EMPTY_SCOPE, []), ("needs", ("out", list_of("a")))))
            self.assertTrue(is_new(function(word, EMPTY_SCOPE, []), word))
            self.assertTrue(is_alike(function(changed(word), EMPTY_SCOPE, [["x", "y", ""]]), ("needs", ("status",))))
            told = function(word, EMPTY_SCOPE, [["x", "y", ""], 3, "more"])
            self.assertEqual(told, (kind, "x\ny3" if kind == "text" else ["x", " ", "y", "3"]))
            self.assertTrue(is_alike(function(word_of("$((1/0))$?"), EMPTY_SCOPE, []), ("refused", ("nought",))))
            for answers, index in [([None], 0), ([[], -1], 1), ([[], True], 1), ([["%"], 0], 0)]:
                with self.assertRaises(BadAnswers) as caught:
                    function(word, EMPTY_SCOPE, answers)
                self.assertEqual(caught.exception.index, index)

    def test_wrong(self):
        for function in (assigned, glob_of):
            for thing in [*any_objects(), ALL_WORD, [["all"]], [("plain", "a"), ("all",)]]:
                if thing in ([], (), [("held", "")]):
                    continue
                with self.assertRaises(BadShellWord) as caught:
                    function(thing, None, None)
                self.assertIs(caught.exception.word, thing)


class Asked(unittest.TestCase):
    def test_asks(self):
        for text, told in [
                ("", []), ("a 'b'", []), ("$x $y$x", ["x", "y"]), ("$@", ["@"]), ("$1 $? $# \"$b\"", ["#", "1", "?", "b"]),
                ("${#x} ${y:-$z}", ["x", "y", "z"]), ("${a:-${b:-$((c + -d * (e < 1)))}}", ["a", "b", "c", "d", "e"]),
                ("$(echo $x)", []), ("$(a $x)$y ${z:-$(b $q)}", ["y", "z"]), ("$((1))", [])]:
            words = words_of(text) if text else []
            self.assertTrue(is_alike(asks(words), told), text)
            self.assertTrue(is_alike(asks(words=changed(words)), told))

    def test_wrong(self):
        for thing in [None, 1, "a", {}, True]:
            with self.assertRaises(BadWords) as caught:
                asks(thing)
            self.assertEqual(caught.exception.index, 0)


class ItHolds(unittest.TestCase):
    def setUp(self):
        self.maker = Maker(21)

    def scope(self):
        make = self.maker
        texts = ["", "a", "a b", " a", "*", "b\n", "7", "-3", "[ab]", "a/*"]
        return ({name: make.pick(texts) for name in make.random.sample(["a", "b", "x", "ab"], 3)}, make.some(lambda: make.pick(texts), 0, 3))

    def answering(self):
        names = ["", "a", "b", ".b", "ab"]
        listings = {"": ["a", "ab", "b"], "a": ["b", "x"], "/": [".b", "a"], "ab": []}
        make = self.maker
        return Answering(listings, [make.some(lambda: make.pick(names), 0, 3) for _ in range(60)],
                         [make.random.randrange(256) for _ in range(60)])

    def test_two_lists(self):
        for _ in range(400):
            one = self.maker.some(self.maker.free, 0, 2)
            other = self.maker.some(self.maker.free, 0, 2)
            scope = self.scope()
            before = changed(changed([one, other, scope]))
            told, _, answers = self.answering().expanded(one, scope)
            more, _, later = self.answering().expanded(other, scope)
            both = expanded(one + other, scope, answers + later)
            if told[0] == "refused":
                self.assertEqual(both, told)
            elif more[0] == "refused":
                self.assertEqual(both, more)
            else:
                self.assertEqual(both, ("words", told[1] + more[1]))
                self.assertEqual(expanded(one + other, scope, answers)[0], "needs" if later else "words")
            self.assertTrue(is_alike([one, other, scope], before))

    def test_held_text(self):
        for text in ["", "a b", "*", "[a]", "\n", "a\n*?", "$x", SIGNS]:
            self.assertTrue(is_alike(expanded([quoted(text)], SCOPE, []), ("words", [text])))
        for _ in range(200):
            text = self.maker.text(8)
            self.assertEqual(expanded([quoted(text), quoted(text)], self.scope(), []), ("words", [text, text]))

    def test_what_is_not_asked(self):
        for _ in range(400):
            words = self.maker.some(self.maker.free, 0, 3)
            scope, other = self.scope(), self.scope()
            asked = asks(words)
            values = {name: text for name, text in other[0].items() if name not in asked}
            values.update({name: text for name, text in scope[0].items() if name in asked})
            arguments = scope[1] if {"@", "#", *"123456789"} & set(asked) else other[1]
            told, needs, answers = self.answering().expanded(words, scope)
            self.assertEqual(expanded(words, (values, arguments), answers), told)
            for at, need in enumerate(needs):
                self.assertEqual(expanded(words, (values, arguments), answers[:at]), ("needs", need))

    def test_assigned_and_parted(self):
        """Where no sign is taken for a glob, fields of the chunks are what words come to."""
        for _ in range(300):
            chunks = self.maker.some(lambda: (self.maker.pick(["", "a", " b", "c d "]), self.maker.pick(["held", "open"])), 1, 3)
            scope = ({"x": "", "y": "", "z": ""}, [])
            word = []
            for name, (text, way) in zip("xyz", chunks):
                scope[0][name] = text
                word.append(("value", name, way == "held"))
            strings = ["".join(text for text, _ in field) for field in parted(chunks)]
            self.assertEqual(expanded([word], scope, []), ("words", strings))
            self.assertEqual(assigned(word, scope, []), ("text", "".join(text for text, _ in chunks)))


if __name__ == "__main__":
    unittest.main()
