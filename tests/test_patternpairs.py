"""Promises [7.5], [7.6], and of [7.8] what stands in their file."""

import itertools
import unittest

from everypipe.errors import BadMany, BadPattern
from everypipe.patternpairs import (alike_paper, common_line, count_matches, is_alike_paper, least_line, outside_line,
                                    parting_line)
from everypipe.patterns import behind_letter, can_end, is_match, is_pattern, neat, sorts_of
from everypipe.patterntexts import read_pattern
from helper import SIGNS, Maker, any_objects, changed, is_alike, is_new

A = ("of", "a")
LINES = ["".join(row) for many in range(5) for row in itertools.product(" ab", repeat=many)]



class Examples(unittest.TestCase):
    def test_examples(self):
        self.assertEqual(parting_line(read_pattern("a*"), read_pattern("(aa)*")), "a")
        self.assertIsNone(parting_line(read_pattern("(a|b)*"), read_pattern("(a*b*)*")))
        self.assertEqual(least_line(read_pattern("x+y")), "xy")
        self.assertEqual(count_matches(read_pattern("[a-c]."), 2), 282)

    def test_least_lines(self):
        for text, line in [(".", " "), ("[!a]", " "), ("[b-d]x|c", "c"), ("[]", None), ("()", ""), ("a*", ""), ("a+", "a"),
                           ("..[z]", "  z"), ("b|a", "a"), ("ab|b", "b"), ("~|aa", "~")]:
            self.assertEqual(least_line(read_pattern(text)), line)
        long = ("row", A, A)
        for _ in range(5):
            long = ("row", long, long)
        self.assertEqual(least_line(long), "a" * 64)
        self.assertEqual(parting_line(long, ("none",)), "a" * 64)

    def test_counts(self):
        for text, many, count in [("a*", 7, 1), (".*", 3, 94 ** 3), ("[]", 0, 0), ("()", 0, 1), ("()", 1, 0), ("a|b|a", 1, 2),
                                  ("[ab]*", 10, 1024), ("(a|aa)(a|aa)", 3, 1), ("[!a]", 1, 93), (".*", 400, 94 ** 400)]:
            self.assertEqual(count_matches(read_pattern(text), many), count)

    def test_both_and_one_without_the_other(self):
        one, other = read_pattern("a*b"), read_pattern("[ab]b")
        self.assertEqual(outside_line(one, other), "b")
        self.assertEqual(outside_line(other, one), "bb")
        self.assertEqual(common_line(one, other), "ab")
        self.assertIsNone(common_line(read_pattern("a"), read_pattern("b")))
        self.assertIsNone(outside_line(read_pattern("a"), read_pattern(".")))
        self.assertEqual(outside_line(read_pattern("."), read_pattern("[!%]".replace("%", " "))), " ")


class ManyPairs(unittest.TestCase):
    def pairs(self, seed, many):
        maker = Maker(seed)
        for _ in range(many):
            one = maker.pattern(maker.pick([1, 2, 3]))
            other = maker.pick([lambda: maker.pattern(3), lambda: neat(one), lambda: ("either", one, one),
                                lambda: ("row", ("empty",), one), lambda: ("either", one, maker.pattern(1))])()
            yield one, other

    def test_just_one(self):
        for one, other in self.pairs(1, 500):
            line, paper = parting_line(one, other), alike_paper(one, other)
            self.assertEqual(line is None, paper is not None)
            if line is not None:
                self.assertNotEqual(self.matches(one, line), self.matches(other, line))
                self.assertFalse(is_alike_paper(one, other, [(neat(one), neat(other))]))
                continue
            self.assertTrue(is_new(paper))
            self.assertIs(type(paper), list)
            self.check_paper(one, other, paper)
            self.assertIs(is_alike_paper(one, other, paper), True)
            self.assertIs(is_alike_paper(changed(one), changed(other), changed(paper)), True)
            self.assertTrue(is_alike(alike_paper(changed(one), changed(other)), paper))

    def matches(self, pattern, line):
        for letter in line:
            pattern = behind_letter(pattern, letter)
        return can_end(pattern)

    def check_paper(self, one, other, paper):
        self.assertIn((neat(one), neat(other)), paper)
        for former, latter in paper:
            self.assertTrue(is_pattern(former) and is_pattern(latter))
            self.assertEqual(can_end(former), can_end(latter))
            for letter in sorts_of([one, other]):
                self.assertIn((behind_letter(former, letter), behind_letter(latter, letter)), paper)

    def test_papers_that_are_none(self):
        for one, other in self.pairs(2, 200):
            paper = alike_paper(one, other)
            if paper is None:
                continue
            for at in range(len(paper)):
                lacking = paper[:at] + paper[at + 1:]
                self.assertFalse(is_alike_paper(one, other, lacking))
                self.assertTrue(is_alike_paper(one, other, paper[::-1] + [paper[at]]))
                for wrong in [[paper[at][0]], (*paper[at], ("any",)), paper[at][0], None, (("any",), ("of", "ba"))]:
                    self.assertFalse(is_alike_paper(one, other, paper + [wrong]))
            self.assertFalse(is_alike_paper(one, other, paper + [(("empty",), ("any",))]))
            self.assertTrue(is_alike_paper(one, other, paper + [(("none",), ("none",))]) or (("none",), ("none",)) in paper)

    def test_least_lines(self):
        for one, other in self.pairs(3, 400):
            here, there = {line for line in LINES if is_match(one, line)}, {line for line in LINES if is_match(other, line)}
            for told, found in [(parting_line(one, other), here ^ there), (outside_line(one, other), here - there),
                                (common_line(one, other), here & there), (least_line(one), here)]:
                least = min(found, key=lambda line: (len(line), line), default=None)
                if least is None:
                    self.assertTrue(told is None or len(told) > 4 or any(sign not in " ab" for sign in told))
                else:
                    self.assertTrue((len(told), told) <= (len(least), least))
                    if all(sign in " ab" for sign in told):
                        self.assertEqual(told, least)
            line = parting_line(one, other)
            if line is not None and len(line) < 60:
                self.assertNotEqual(is_match(one, line), is_match(other, line))

    def test_counts(self):
        maker = Maker(4)
        for _ in range(60):
            pattern = maker.pattern(3)
            for many, lines in [(0, [""]), (1, SIGNS), (2, [a + b for a in SIGNS for b in SIGNS])]:
                if many < 2 or maker.chance(15):
                    self.assertEqual(count_matches(pattern, many), sum(is_match(pattern, line) for line in lines))

    def test_alike_words(self):
        deep = A
        for _ in range(19):
            deep = ("either", ("often", deep), A)
        self.assertIsNone(parting_line(deep, ("often", A)))
        self.assertIsNotNone(alike_paper(deep, ("often", A)))


class Wrong(unittest.TestCase):
    def test_patterns(self):
        for thing in any_objects():
            if is_pattern(thing):
                continue
            for function in (parting_line, alike_paper, outside_line, common_line, lambda one, other: is_alike_paper(one, other, 1)):
                for one, other in ((thing, None), (A, thing)):
                    with self.assertRaises(BadPattern) as caught:
                        function(one, other)
                    self.assertIs(caught.exception.pattern, thing)
            for function in (least_line, lambda pattern: count_matches(pattern, None)):
                with self.assertRaises(BadPattern) as caught:
                    function(thing)
                self.assertIs(caught.exception.pattern, thing)
        for many in [None, -1, True, "1", []]:
            with self.assertRaises(BadMany) as caught:
                count_matches(A, many)
            self.assertIs(caught.exception.many, many)

    def test_any_object(self):
        for thing in any_objects():
            self.assertIs(is_alike_paper(A, A, thing), False)
            self.assertIs(is_alike_paper(A, A, [thing]), False)
            self.assertIs(is_alike_paper(A, A, [(A, thing)]), False)

    def test_names_of_parameters(self):
        self.assertIsNone(parting_line(one=A, other=A))
        paper = alike_paper(one=A, other=A)
        self.assertTrue(is_alike_paper(one=A, other=A, thing=paper))
        self.assertIsNone(outside_line(one=A, other=A))
        self.assertEqual(common_line(one=A, other=A), "a")
        self.assertEqual(least_line(pattern=A), "a")
        self.assertEqual(count_matches(pattern=A, many=1), 1)


if __name__ == "__main__":
    unittest.main()
