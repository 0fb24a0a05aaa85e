"""Promise [4.7]: simple words, and scopes in which they part."""

import itertools
import unittest

from everypipe.errors import BadSimple
from everypipe.expansion import expanded
from everypipe.shellreading import read_script
from everypipe.simplewords import is_simple, words_part
from helper import Maker, SIGNS, any_objects, changed, is_alike, is_new

PIECES = [("plain", "a"), ("plain", "xa"), ("held", "ax"), ("value", "ax", True), ("held", ""), ("held", "a"), ("held", " "), ("value", "x", True), ("value", "x", False),
          ("value", "y", False), ("value", "y", True)]


def word_of(text):
    return read_script("e " + text)[0][0][2][1]


def made_of(word):
    """The literals and open values of a word, told as a string is told: by a joined text."""
    made, literal = [], None
    for piece in word:
        if piece[0] == "value" and not piece[2]:
            made += [literal, piece[1]]
            literal = None
        else:
            literal = (literal or "") + ("\n\n<" + piece[1] + ">" if piece[0] == "value" else piece[1])
    return [*made, literal]


class Simple(unittest.TestCase):
    def test_is_simple(self):
        for text in ["a", "''", "\"*?[]\"", "$x", "\"$x\"", "a$x'b'\"$y\"", "if", "x=1"]:
            self.assertIs(is_simple(word_of(text)), True, text)
            self.assertIs(is_simple(thing=changed(word_of(text))), True)
        for text in ["*", "a?", "[", "]", "a]", "$1", "$?", "$#", "$@", "${#x}", "${x:-a}", "$(a)", "$((1))", "a$1", "\"$1\""]:
            self.assertIs(is_simple(word_of(text)), False, text)
        for thing in [*any_objects(), [("plain", "a"), ("plain", "b")], [("plain", "")], [("value", "x", 1)], [("held", "%")]]:
            self.assertIs(is_simple(thing), thing in ([("held", "")],), thing)
        for sign in "*?[]":
            self.assertFalse(is_simple([("plain", "a" + sign)]))
            self.assertTrue(is_simple([("held", "a" + sign)]))

    def alike(self, one, other):
        self.assertIsNone(words_part(word_of(one), word_of(other)))
        self.assertIsNone(words_part(one=changed(word_of(other)), other=word_of(one)))

    def unlike(self, one, other):
        self.parts(word_of(one), word_of(other))
        self.parts(word_of(other), word_of(one))

    def parts(self, one, other):
        told = words_part(one, other)
        self.assertIsInstance(told, tuple)
        self.assertEqual(list(told[0]), sorted(told[0]))
        self.assertTrue(is_new(told, one, other))
        strings = [expanded([word], told, []) for word in (one, other)]
        self.assertEqual([kind for kind, _ in strings], ["words", "words"])
        self.assertNotEqual(strings[0], strings[1], (one, other, told))
        self.assertTrue(is_alike(words_part(changed(one), changed(other)), told))

    def test_alike(self):
        for one, other in [("a", "'a'"), ("ab", "a'b'"), ("a''", "a"), ("''a", "a"), ("$x", "${x}"), ("\"$x\"a", "\"$x\"'a'"),
                           ("\"a$x\"", "a\"$x\""), ("a$x\"b\"", "'a'$x'b'"), ("\"$x$y\"", "\"$x\"\"$y\""), ("''", "\"\""),
                           ("$x'a'''", "${x}a"), ("\"$x\"''a", "\"$x\"a")]:
            self.alike(one, other)

    def test_unlike(self):
        for one, other in [("a", "b"), ("a", "''"), ("$x", "\"$x\""), ("$x", "$y"), ("$x", "$x''"), ("$x", "''$x"), ("$x", "a"),
                           ("$x$y", "$x''$y"), ("$x$y", "$y$x"), ("$x$x", "$x"), ("\"$x\"", "\"$y\""), ("\"$x$y\"", "\"$y$x\""),
                           ("\"$x\"", "' ~x '"), ("\"$x\"", "'~x'"), ("$x", "'~x'"), ("$x", "\\~x"), ("a$x", "a\"$x\""),
                           ("\"$x\"$y", "$x\"$y\""), ("$x", "''"), ("\"$x\"", "''"), ("$x' '$y", "$x''$y"), ("\"$x \"", "\"$x\""),
                           ("\"$x~y\"", "\"$x~x\""), ("\"~$x\"", "\"$x~\""), ("$abcdefgh", "$abcdefg"), ("a$x", "${x}a"),
                           ("\"$x\"a", "xa"), ("a$x", "a$x''"), ("a\"$x\"", "\"$ax\""), ("a\"$x\"b", "a\"$xb\""), ("a$x", "${x}''")]:
            self.unlike(one, other)

    def test_just_one(self):
        words = [list(row) for many in (1, 2, 3) for row in itertools.product(PIECES, repeat=many)]
        words = [word for word in words if is_simple(word)]
        self.assertGreater(len(words), 100)
        maker = Maker(5)
        for _ in range(3000):
            one, other = maker.pick(words), maker.pick(words)
            if made_of(one) == made_of(other):
                self.assertIsNone(words_part(one, other))
                for x, y in itertools.product(["", " ", "a", " a", "a b "], repeat=2):
                    scope = ({"x": x, "y": y, "ax": x}, [])
                    self.assertEqual(expanded([one], scope, []), expanded([other], scope, []))
            else:
                self.parts(one, other)

    def test_marks_in_texts(self):
        held = [("held", SIGNS * 3)]
        self.parts(held, [("value", "x", True)])
        self.parts([("held", "~" * 50 + "x " + "^" * 50)], [("value", "x", False)])
        told = words_part([("value", "x", True)], [("value", "x", False)])
        for sign in SIGNS:
            self.parts([("value", "x", True)], [("held", told[0]["x"])])
            self.parts([("value", "x", True), ("held", sign)], [("held", told[0]["x"] + sign)])

    def test_wrong(self):
        right = [("plain", "a")]
        for thing in any_objects():
            if thing == [("held", "")]:
                continue
            with self.assertRaises(BadSimple) as caught:
                words_part(thing, None)
            self.assertIs(caught.exception.word, thing)
            with self.assertRaises(BadSimple) as caught:
                words_part(right, thing)
            self.assertIs(caught.exception.word, thing)


if __name__ == "__main__":
    unittest.main()
