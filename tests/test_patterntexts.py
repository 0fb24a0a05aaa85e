"""Promise [7.3], and of the example [7.8] what it says of texts."""

import itertools
import unittest

from everypipe.errors import BadPattern, BadText
from everypipe.patterns import is_pattern
from everypipe.patterntexts import pattern_fault, pattern_text, read_pattern
from helper import Maker, SIGNS, any_objects, changed, is_alike
from test_patterns import A, ANY, B, C, EMPTY, NONE, WRONG_PATTERNS, either, row

SPECIAL = ".[]*+?|()\\-!"


class Second:
    """A second reader of patterns' texts, by calls; it raises ValueError where a text is none."""

    def __init__(self, text):
        self.text, self.at = text, 0

    def sign(self):
        if self.at == len(self.text) or self.text[self.at] not in SIGNS:
            raise ValueError
        self.at += 1
        return self.text[self.at - 1]

    def next(self):
        return self.text[self.at:self.at + 1]

    def whole(self):
        pattern = self.eithers()
        if self.at != len(self.text):
            raise ValueError
        return pattern

    def eithers(self):
        parts = [self.rows()]
        while self.next() == "|":
            self.at += 1
            parts.append(self.rows())
        return either(*parts)

    def rows(self):
        parts = [self.piece()]
        while self.next() not in ("", "|", ")"):
            parts.append(self.piece())
        return row(*parts)

    def piece(self):
        piece = self.bare(self.sign())
        while self.next() and self.next() in "*+?":
            sign = self.sign()
            often = ("often", piece)
            piece = often if sign == "*" else ("row", piece, often) if sign == "+" else ("either", piece, EMPTY)
        return piece

    def bare(self, sign):
        if sign == "\\":
            return ("of", self.escaped())
        if sign == ".":
            return ANY
        if sign == "[":
            return self.items()
        if sign == "(":
            piece = EMPTY if self.next() == ")" else self.eithers()
            if self.sign() != ")":
                raise ValueError
            return piece
        if sign in SPECIAL and sign not in "-!":
            raise ValueError
        return ("of", sign)

    def escaped(self):
        sign = self.sign()
        if sign not in SPECIAL:
            raise ValueError
        return sign

    def item_sign(self):
        sign = self.sign()
        if sign == "\\":
            return self.escaped()
        if sign in "]-!":
            raise ValueError
        return sign

    def items(self):
        is_others = self.next() == "!"
        self.at += is_others
        found = set()
        while self.next() != "]":
            first = last = self.item_sign()
            if self.next() == "-":
                self.at += 1
                last = self.item_sign()
            if last < first:
                raise ValueError
            found |= {sign for sign in SIGNS if first <= sign <= last}
        self.at += 1
        lot = "".join(sign for sign in SIGNS if (sign in found) != is_others)
        return NONE if lot == "" else ANY if lot == SIGNS else ("of", lot)


def second(text):
    try:
        return Second(text).whole()
    except ValueError:
        return None


class Texts(unittest.TestCase):
    def reads(self, text, pattern):
        self.assertIsNone(pattern_fault(text), text)
        self.assertTrue(is_alike(read_pattern(text), pattern), (text, read_pattern(text)))
        self.assertTrue(is_alike(second(text), pattern))

    def wrong(self, text, place):
        self.assertEqual(pattern_fault(text), place, text)
        with self.assertRaises(BadText) as caught:
            read_pattern(text=text)
        self.assertEqual(caught.exception.place, place)

    def test_example(self):
        self.reads("a*b|c", either(row(("often", A), B), C))
        self.wrong("a|*", 2)
        self.wrong("(a", 2)
        self.wrong("[b-a]", 3)

    def test_signs(self):
        for sign in SIGNS:
            if sign in SPECIAL:
                self.reads("\\" + sign, ("of", sign))
                self.reads("[\\" + sign + "]", ("of", sign))
            else:
                self.reads(sign, ("of", sign))
                self.wrong("\\" + sign, 1)
                self.wrong("[\\" + sign, 2)
            if sign in "]\\-!":
                self.wrong("[a" + sign + sign, {"]": 3, "\\": 4, "-": 3, "!": 2}[sign])
            else:
                self.reads("[" + sign + "]", ("of", sign))
        self.reads("-", ("of", "-"))
        self.reads("!-", row(("of", "!"), ("of", "-")))
        for sign in "%\n\t\u00e9":
            for text in ["", "a", "\\", "[", "[a-", "("]:
                self.wrong(text + sign, len(text))

    def test_pieces(self):
        self.reads(".", ANY)
        self.reads("()", EMPTY)
        self.reads("(())", EMPTY)
        self.reads("(a)", A)
        self.reads("((a|b))c", row(either(A, B), C))
        self.reads("abc", row(A, B, C))
        self.reads("a(bc)", ("row", A, ("row", B, C)))
        self.reads("a|b|c", either(A, B, C))
        self.reads("a|(b|c)", ("either", A, ("either", B, C)))
        self.reads("a+", row(A, ("often", A)))
        self.reads("a?", either(A, EMPTY))
        self.reads("a*?", either(("often", A), EMPTY))
        self.reads("a+*", ("often", row(A, ("often", A))))
        self.reads("(ab)*", ("often", row(A, B)))
        self.reads("()*", ("often", EMPTY))
        self.reads("ab*", row(A, ("often", B)))
        self.reads("[]*", ("often", NONE))

    def test_items(self):
        self.reads("[]", NONE)
        self.reads("[!]", ANY)
        self.reads("[ba]", ("of", "ab"))
        self.reads("[aa]", A)
        self.reads("[a-c]", ("of", "abc"))
        self.reads("[a-a]", A)
        self.reads("[c-da-b]", ("of", "abcd"))
        self.reads("[!a]", ("of", SIGNS.replace("a", "")))
        self.reads("[!!]".replace("!!", "!\\!"), ("of", SIGNS.replace("!", "")))
        self.reads("[ -~]", ANY)
        self.reads("[! -~]", NONE)
        self.reads("[!-~]".replace("!-", "\\!-"), ("of", SIGNS[1:]))
        self.reads("[$-&]", ("of", "$&"))
        self.reads("[\\!-\\)]", ("of", "!\"#$&'()"))
        self.reads("[.*+?|()[]", ("of", "()*+.?[|"))
        self.reads("[|-\\|]", ("of", "|"))
        self.reads("[+-\\-]", ("of", "+,-"))

    def test_faults(self):
        for text, place in [("", 0), ("|", 0), ("*", 0), ("+", 0), ("?", 0), (")", 0), ("]", 0), ("a)", 1), ("a]", 1), ("a|", 2),
                            ("a||", 2), ("a|)", 2), ("(", 1), ("(|", 1), ("(*", 1), ("(a|)", 3), ("(()", 3), ("(a))", 3),
                            ("\\", 1), ("[", 1), ("[!", 2), ("[!!", 2), ("[-", 1), ("[!-", 2), ("[a", 2), ("[a-", 3), ("[a-]", 3),
                            ("[a--", 3), ("[a-!", 3), ("[a-c-", 4), ("[a\\", 3), ("[b-\\", 4), ("[b-\\.", 4), ("[~-\\", 3),
                            ("[}-\\", 3), ("[|-\\", 4), ("[{-\\", 4), ("[\\]-[", 4), ("[\\]-\\[", 5), ("()|", 3), ("a(b", 3)]:
            self.wrong(text, place)

    def test_any_object(self):
        for thing in any_objects():
            if isinstance(thing, str):
                self.assertEqual(pattern_fault(thing), {"": 0, "a": None, "ab": None, "%": 0, "\u00e9": 0, "\n": 0, "a b": None}[thing])
            else:
                self.assertEqual(pattern_fault(text=thing), -1)
                with self.assertRaises(BadText) as caught:
                    read_pattern(thing)
                self.assertEqual(caught.exception.place, -1)

    def test_the_first_wrong_sign(self):
        begun, faults = set(), {}
        for tokens, many in (("a|*()\\", 6), ("[]!-\\ab", 5), ("[~-\\]|!", 6)):
            for length in range(many + 1):
                for signs in itertools.product(tokens, repeat=length):
                    text = "".join(signs)
                    pattern, fault = second(text), pattern_fault(text)
                    self.assertEqual(pattern is None, fault is not None, text)
                    if pattern is None:
                        faults[text] = fault
                        continue
                    self.assertTrue(is_alike(read_pattern(text), pattern), text)
                    self.assertTrue(is_pattern(pattern))
                    begun.update(text[:at] for at in range(len(text) + 1))
        for text, at in faults.items():
            if at < len(text):
                self.assertNotIn(text[:at + 1], begun)
            if len(text) < 4:
                self.assertTrue(any(second(text[:at] + more) for more in ["a", ")", "]", "a)", "a))", "~]", "|]", "]a", "|",
                                                                         "|)", "~])", "a)))", "])", "]))", "a])", "|])"]), text)

    def test_long_texts(self):
        for text in ["(" * 150 + "a" + ")" * 150, "a" * 400, "|".join("a" * 200), "a" + "*" * 300, "()" * 200]:
            self.assertIsNone(pattern_fault(text))
            self.assertTrue(is_pattern(read_pattern(text)))
        self.assertIsNone(pattern_fault("a" + "+" * 300))
        self.assertEqual(pattern_fault("(" * 300), 300)


class Written(unittest.TestCase):
    def test_it_is_read_as_just_this(self):
        for pattern in [NONE, EMPTY, ANY, A, ("of", SIGNS[1:]), ("of", SIGNS[:-1]), ("of", "-]"), ("of", "!\\"), ("of", "!-"),
                        *[("of", sign) for sign in SIGNS], ("row", A, ("row", B, C)), row(A, B, C), either(A, B, C),
                        ("either", A, ("either", B, C)), ("often", ("often", A)), ("often", row(A, B)), ("often", either(A, B)),
                        row(either(A, B), C), ("row", A, either(B, C)), either(row(A, B), C), row(EMPTY, EMPTY), ("often", NONE),
                        either(A, EMPTY), row(A, ("often", A))]:
            self.check(pattern)
        maker = Maker(13)
        for _ in range(500):
            self.check(maker.pattern(4))

    def check(self, pattern):
        text = pattern_text(pattern)
        self.assertIsInstance(text, str)
        self.assertTrue(is_alike(read_pattern(text), pattern), (pattern, text))
        self.assertTrue(is_alike(second(text), pattern), (pattern, text))
        self.assertEqual(pattern_text(pattern=changed(pattern)), text)

    def test_long_ones(self):
        for text in ["a" * 300, "|".join("a" * 200), "a" + "*" * 300]:
            self.assertEqual(pattern_text(read_pattern(text)), text)

    def test_wrong(self):
        for thing in WRONG_PATTERNS:
            with self.assertRaises(BadPattern) as caught:
                pattern_text(thing)
            self.assertIs(caught.exception.pattern, thing)


if __name__ == "__main__":
    unittest.main()
