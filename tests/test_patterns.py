"""Promises [7.1], [7.2], [7.4], and of the example [7.8] what stands in everypipe/patterns.py."""

import itertools
import unittest

from everypipe.errors import BadLetter, BadLine, BadPattern
from everypipe.patterns import behind_letter, can_end, first_match, is_match, is_pattern, neat, sorts_of
from everypipe.patterntexts import read_pattern
from helper import Maker, SIGNS, any_objects, changed, is_alike

NONE, EMPTY, ANY = ("none",), ("empty",), ("any",)
A, B, C = ("of", "a"), ("of", "b"), ("of", "c")
WRONG_PATTERNS = [None, 1, "none", (), [], ("none", 1), ("other",), ("of",), ("of", ""), ("of", SIGNS), ("of", "ba"),
                  ("of", "aa"), ("of", "%"), ("of", None), ("of", ["a"]), ("row", A), ("row", A, B, C), ("either", A),
                  ("often",), ("often", A, B), ("row", A, None), ("either", A, ("of", "ba")), ("often", ("often", ())),
                  (["none"],), (("none",),), True, {"none": 1}, ("of", "a", "b"), ("any", "a")]
LINES = ["".join(row) for many in range(5) for row in itertools.product("ab", repeat=many)] + ["c", "-", "]a", "!b", " "]


def row(*parts):
    """Parts joined from the left."""
    joined = parts[0]
    for part in parts[1:]:
        joined = ("row", joined, part)
    return joined


def either(*parts):
    joined = parts[0]
    for part in parts[1:]:
        joined = ("either", joined, part)
    return joined


def ends(pattern, line, begin):
    """All ends of stretches from here that a pattern matches, told by calls."""
    word = pattern[0]
    if word == "none":
        return set()
    if word == "empty":
        return {begin}
    if word in ("any", "of"):
        is_such = begin < len(line) and (word == "any" or line[begin] in pattern[1])
        return {begin + 1} if is_such else set()
    if word == "either":
        return ends(pattern[1], line, begin) | ends(pattern[2], line, begin)
    if word == "row":
        return {end for middle in ends(pattern[1], line, begin) for end in ends(pattern[2], line, middle)}
    found, fresh = {begin}, {begin}
    while fresh:
        fresh = {end for at in fresh for end in ends(pattern[1], line, at)} - found
        found |= fresh
    return found


def is_neat(pattern):
    """Whether a pattern is as [7.4] says of neat ones."""
    word = pattern[0]
    inside = pattern[1:] if word in ("row", "either", "often") else ()
    if not all(is_neat(part) for part in inside):
        return False
    if word == "row":
        return pattern[1][0] not in ("row", "none", "empty") and pattern[2][0] not in ("none", "empty")
    if word == "often":
        return pattern[1][0] not in ("often", "none", "empty")
    if word == "either":
        members = [pattern[2]]
        while pattern[1][0] == "either":
            pattern = pattern[1]
            members.append(pattern[2])
        members.append(pattern[1])
        kinds = [member[0] for member in members]
        return members[::-1] == sorted(set(members)) and "none" not in kinds and "either" not in kinds
    return True


class Matching(unittest.TestCase):
    def test_is_pattern(self):
        for thing in [NONE, EMPTY, ANY, A, ("of", "ab"), ("of", SIGNS[1:]), row(A, B), either(A, B), ("often", NONE)]:
            self.assertIs(is_pattern(thing), True)
            self.assertIs(is_pattern(list(thing)), True)
            self.assertIs(is_pattern(thing=changed(thing)), True)
        for thing in WRONG_PATTERNS:
            self.assertIs(is_pattern(thing), False, thing)
        for thing in any_objects():
            self.assertIs(is_pattern(thing), thing in [("none",), ["of", "a"]], thing)
        deep = A
        for _ in range(500):
            deep = ("often", deep)
        self.assertTrue(is_pattern(deep))

    def test_example(self):
        pattern = either(row(("often", A), B), C)
        self.assertIs(is_match(pattern, "aab"), True)
        self.assertTrue(is_alike(first_match(pattern, "xabc"), (1, 3)))

    def test_is_match(self):
        for pattern, right, wrong in [
                (NONE, [], ["", "a"]), (EMPTY, [""], ["a", " "]), (ANY, list(SIGNS), ["", "aa"]), (A, ["a"], ["", "b", "aa"]),
                (("of", "ab"), ["a", "b"], ["c", "ab"]), (row(A, B, C), ["abc"], ["ab", "abcc", ""]),
                (either(A, EMPTY), ["a", ""], ["aa"]), (("often", row(A, B)), ["", "ab", "abab" * 15], ["a", "aba"]),
                (("often", EMPTY), [""], ["a"]), (("often", ("often", A)), ["", "a" * 60], ["b"])]:
            for line in right:
                self.assertIs(is_match(pattern, line), True, (pattern, line))
                self.assertIs(is_match(changed(pattern), line), True)
            for line in wrong:
                self.assertIs(is_match(pattern=pattern, line=line), False, (pattern, line))

    def test_first_match(self):
        for pattern, line, told in [
                (NONE, "a", None), (NONE, "", None), (EMPTY, "", (0, 0)), (EMPTY, "a", (0, 0)), (A, "ba", (1, 2)),
                (("often", A), "baa", (0, 0)), (("often", A), "aab", (0, 2)), (row(A, ("often", A)), "baab", (1, 3)),
                (either(A, row(A, B)), "cab", (1, 3)), (either(row(A, B), A), "cac", (1, 2)), (C, "ab", None),
                (row(ANY, ANY), "a", None), (either(B, row(A, A, B)), "aab", (0, 3)), (either(B, EMPTY), "ab", (0, 0))]:
            self.assertTrue(is_alike(first_match(pattern, line), told), (pattern, line))
            self.assertTrue(is_alike(first_match(pattern=changed(pattern), line=line), told))

    def test_made_up_patterns(self):
        maker = Maker(1)
        for _ in range(300):
            pattern = maker.pattern()
            for line in maker.random.sample(LINES, 8):
                found = [(at, max(ends(pattern, line, at))) for at in range(len(line) + 1) if ends(pattern, line, at)]
                self.assertIs(is_match(pattern, line), len(line) in ends(pattern, line, 0), (pattern, line))
                self.assertEqual(first_match(pattern, line), found[0] if found else None, (pattern, line))
            self.assertIs(can_end(pattern), is_match(pattern, ""))

    def test_great_ones(self):
        nested = A
        for _ in range(20):
            nested = ("often", either(nested, row(nested, nested))) if len(str(nested)) < 2000 else ("often", nested)
        self.assertTrue(is_match(nested, "a" * 60))
        self.assertFalse(is_match(nested, "a" * 59 + "b"))
        long = row(*[either(A, EMPTY)] * 60, *[A] * 60)
        self.assertTrue(is_match(long, "a" * 60))
        self.assertEqual(first_match(long, "b" + "a" * 59), None)

    def test_wrong(self):
        for function in (is_match, first_match):
            for thing in WRONG_PATTERNS:
                with self.assertRaises(BadPattern) as caught:
                    function(thing, None)
                self.assertIs(caught.exception.pattern, thing)
            for line in [None, 1, "%", "x" * 61, ["a"], "\n"]:
                with self.assertRaises(BadLine) as caught:
                    function(A, line)
                self.assertIs(caught.exception.line, line)
        for function in (can_end, neat):
            for thing in WRONG_PATTERNS:
                with self.assertRaises(BadPattern) as caught:
                    function(pattern=thing)
                self.assertIs(caught.exception.pattern, thing)


class Neat(unittest.TestCase):
    def neat(self, pattern, told):
        self.assertTrue(is_alike(neat(pattern), told), (pattern, neat(pattern)))
        self.assertTrue(is_alike(neat(changed(pattern)), told))
        self.assertTrue(is_alike(neat(told), told))

    def test_neat(self):
        for pattern in [NONE, EMPTY, ANY, A, ("of", "ab")]:
            self.neat(pattern, pattern)
        self.neat(row(A, NONE), NONE)
        self.neat(row(NONE, A), NONE)
        self.neat(row(A, EMPTY), A)
        self.neat(row(EMPTY, A), A)
        self.neat(row(EMPTY, EMPTY), EMPTY)
        self.neat(row(A, B, C, ANY), ("row", A, ("row", B, ("row", C, ANY))))
        self.neat(("row", row(A, EMPTY, B), row(EMPTY, C)), ("row", A, ("row", B, C)))
        self.neat(row(A, either(row(B, C), NONE)), ("row", A, ("row", B, C)))
        self.neat(row(A, either(B, EMPTY)), ("row", A, ("either", EMPTY, B)))
        self.neat(either(A, A), A)
        self.neat(either(NONE, A), A)
        self.neat(either(A, NONE), A)
        self.neat(either(NONE, NONE), NONE)
        self.neat(either(C, B, A, B), either(A, B, C))
        self.neat(("either", C, ("either", EMPTY, ("either", ANY, A))), either(ANY, EMPTY, A, C))
        self.neat(either(row(A, B), ("often", A), A, EMPTY), either(EMPTY, A, ("often", A), ("row", A, B)))
        self.neat(either(row(row(A, B), C), ("row", A, ("row", B, C))), ("row", A, ("row", B, C)))
        self.neat(either(EMPTY, ("often", A)), either(EMPTY, ("often", A)))
        self.neat(either(A, ("of", "ab")), either(A, ("of", "ab")))
        self.neat(("often", ("often", A)), ("often", A))
        self.neat(("often", NONE), EMPTY)
        self.neat(("often", EMPTY), EMPTY)
        self.neat(("often", ("often", row(EMPTY, NONE))), EMPTY)
        self.neat(("often", either(("often", A), NONE)), ("often", A))
        self.neat(("often", either(A, EMPTY)), ("often", either(EMPTY, A)))
        self.neat(("often", either(A, A)), ("often", A))

    def test_made_up_patterns(self):
        maker = Maker(9)
        for _ in range(400):
            pattern = maker.pattern(4)
            told = neat(pattern)
            self.assertTrue(is_neat(told), told)
            self.assertTrue(is_alike(neat(told), told))
            self.assertTrue(is_alike(neat(changed(pattern)), told))
            for line in maker.random.sample(LINES, 6):
                self.assertEqual(is_match(told, line), is_match(pattern, line), (pattern, line))

    def test_long_ones(self):
        long = row(*[A] * 250)
        self.assertEqual(neat(neat(long)), neat(long))
        self.assertTrue(can_end(row(*[("often", A)] * 250)))
        self.assertEqual(neat(read_pattern("a" + "*" * 199)), ("often", A))


class Behind(unittest.TestCase):
    def behind(self, pattern, letter, told):
        self.assertTrue(is_alike(behind_letter(pattern, letter), told), (pattern, behind_letter(pattern, letter)))
        self.assertTrue(is_alike(behind_letter(pattern=changed(pattern), letter=letter), told))

    def test_behind(self):
        often = ("often", A)
        for pattern in [NONE, EMPTY]:
            self.behind(pattern, "a", NONE)
        for sign in SIGNS:
            self.behind(ANY, sign, EMPTY)
            self.behind(("of", "ab"), sign, EMPTY if sign in "ab" else NONE)
        self.behind(either(A, row(A, B)), "a", either(EMPTY, B))
        self.behind(either(A, B), "c", NONE)
        self.behind(row(A, B, C), "a", ("row", B, C))
        self.behind(row(A, B), "b", NONE)
        self.behind(row(often, B), "a", ("row", often, B))
        self.behind(row(often, B), "b", EMPTY)
        self.behind(row(often, A), "a", either(EMPTY, ("row", often, A)))
        self.behind(row(often, ("often", B), C), "c", EMPTY)
        self.behind(row(either(A, EMPTY), B, C), "b", C)
        self.behind(often, "a", often)
        self.behind(often, "b", NONE)
        self.behind(("often", row(A, B)), "a", ("row", B, ("often", row(A, B))))
        self.behind(row(either(row(A, B), A), C), "a", ("row", either(EMPTY, B), C))

    def test_it_matches_what_is_behind(self):
        maker = Maker(6)
        for _ in range(300):
            pattern = maker.pattern()
            for letter in "ab-! ":
                told = behind_letter(pattern, letter)
                self.assertTrue(is_neat(told))
                for line in maker.random.sample(LINES, 5):
                    self.assertEqual(is_match(told, line), is_match(pattern, letter + line), (pattern, letter, line))

    def test_finitely_many(self):
        maker = Maker(8)
        for _ in range(40):
            waiting = [neat(maker.pattern())]
            found = []
            while waiting:
                pattern = waiting.pop()
                if pattern not in found:
                    found.append(pattern)
                    waiting += [behind_letter(pattern, sign) for sign in sorts_of([pattern])]
                self.assertLess(len(found), 400)

    def test_wrong(self):
        for thing in WRONG_PATTERNS:
            with self.assertRaises(BadPattern) as caught:
                behind_letter(thing, None)
            self.assertIs(caught.exception.pattern, thing)
        for letter in [None, 1, "", "aa", "%", "\n", ["a"], "\u00e9"]:
            with self.assertRaises(BadLetter) as caught:
                behind_letter(A, letter)
            self.assertIs(caught.exception.letter, letter)


class Sorts(unittest.TestCase):
    def test_sorts(self):
        for patterns, told in [
                ([], [" "]), ([ANY, EMPTY], [" "]), ([A], [" ", "a"]), ([("of", "ab"), ("of", "bc")], [" ", "a", "b", "c"]),
                ([("of", " ")], [" ", "!"]), ([("of", " ab")], [" ", "!"]), ([row(A, ("often", B))], [" ", "a", "b"]),
                ([either(A, A), A], [" ", "a"]), ([("of", SIGNS[1:])], [" ", "!"])]:
            self.assertTrue(is_alike(sorts_of(patterns), told), patterns)
            self.assertTrue(is_alike(sorts_of(patterns=changed(patterns)), told))

    def test_signs_of_a_sort_are_alike(self):
        maker = Maker(3)
        for _ in range(60):
            patterns = maker.some(maker.pattern, 0, 2)
            least = sorts_of(patterns)
            self.assertEqual(least, sorted(set(least)))
            for sign in SIGNS:
                behind = [behind_letter(pattern, sign) for pattern in patterns]
                self.assertIn(behind, [[behind_letter(pattern, one) for pattern in patterns] for one in least if one <= sign])

    def test_wrong(self):
        for thing in [None, 1, "a", {}, True]:
            with self.assertRaises(BadPattern) as caught:
                sorts_of(thing)
            self.assertIs(caught.exception.pattern, thing)
        for thing in WRONG_PATTERNS:
            with self.assertRaises(BadPattern) as caught:
                sorts_of([A, thing, None])
            self.assertIs(caught.exception.pattern, thing)


if __name__ == "__main__":
    unittest.main()
