"""Promises [19.1] to [19.5]."""

import itertools
import unittest

from everypipe.alikerows import marks_of, parting_stream, parting_within, row_sort
from everypipe.errors import BadMany
from everypipe.patterns import first_match
from everypipe.patterntexts import pattern_text, read_pattern
from everypipe.refusals import BadAlphabet, BadRow, UnlikeRows
from everypipe.rows import row_lines
from everypipe.rowsteps import stepped, steps_of
from helper import SIGNS, any_objects, changed, is_alike, is_new
from made_machines import raised
from row_maker import A, ALL, B, CAT, PATTERNS, SORT, UNIQ, WC, RowMaker, cut, head, tail
from test_rows import NO_ROWS

SELECTING, SORTING = ("cat", "grep", "grep", "head", "tail"), ("cat", "grep", "grep", "sort", "uniq", "uniq")
grep = lambda text: ("grep", read_pattern(text))


def less(lines):
    """What lists of lines ascend by."""
    return (len(lines), [(len(line), line) for line in lines])


def least_parting(one, other, lines, many):
    """The least of all lists of at most many lines of which two rows tell unlike ones."""
    found = [list(told) for size in range(many + 1) for told in itertools.product(lines, repeat=size) if row_lines(one, list(told)) != row_lines(other, list(told))]
    return min(found, key=less, default=None)


class Within(unittest.TestCase):
    def test_least(self):
        for one, other, lines, many, told in [
            ([A], [CAT], ["b", "a"], 2, ["b"]), ([A], [A], ["b", "a"], 2, None), ([SORT], [CAT], ["b", "a"], 1, None), ([SORT], [CAT], ["b", "a"], 2, ["b", "a"]), ([WC], [WC], ["a"], 3, None),
            ([WC], [CAT], [], 3, []), ([WC], [CAT], ["a"], 0, []), ([UNIQ], [CAT], ["aa", "b"], 3, ["b", "b"]), ([cut(1)], [CAT], ["a", "a b"], 2, ["a b"]), ([A, WC], [WC], ["ab", "c", ""], 1, [""]),
            ([head(2)], [head(3)], ["a"], 2, None), ([head(2)], [head(3)], ["a", ""], 3, ["", "", ""]), ([CAT], [SORT], ["ab", "b"], 2, ["b", "ab"]), ([CAT], [A], [], 4, None),
        ]:
            self.assertTrue(is_alike(parting_within(one, other, lines, many), told), (one, other))
            self.assertTrue(is_alike(parting_within(one=changed(other), other=changed(one), lines=tuple(lines), many=many), told))

    def test_of_many(self):
        maker = RowMaker(191)
        parted = 0
        for _ in range(250):
            one, other = maker.row(4), maker.row(4)
            lines = maker.random.sample(["", "a", "b", "ab", "b a", "x"], maker.random.randint(0, 3))
            many = maker.random.randint(0, 3)
            told = parting_within(one, other, lines, many)
            self.assertTrue(is_alike(told, least_parting(one, other, lines, many)))
            self.assertTrue(is_new(told, lines, parting_within(one, other, lines, many)))
            parted += told is not None
        self.assertGreater(parted, 80)

    def test_wrong(self):
        for lines, index in [(None, 0), ("ab", 0), ({}, 0), (["a", "b", "a"], 2), (["a", 1], 1), (["a\n"], 0), (["", "a", "x" * 61], 2), (["a", "a", None], 1)]:
            self.assertEqual(raised(BadAlphabet, parting_within, [CAT], [CAT], lines, None).index, index)
        for many in [None, -1, True, "1", []]:
            self.assertIs(raised(BadMany, parting_within, [CAT], [CAT], [], many).many, many)
        functions = [lambda one, other: parting_within(one, other, None, None), marks_of, parting_stream]
        for function in functions:
            for thing in any_objects() + NO_ROWS:
                self.assertIs(raised(BadRow, function, thing, None).row, thing)
                self.assertIs(raised(BadRow, function, [WC], thing).row, thing)
        for thing in any_objects() + NO_ROWS:
            self.assertIs(raised(BadRow, row_sort, thing).row, thing)


class Sorts(unittest.TestCase):
    def test_sorts(self):
        for row, told in [([CAT], "selecting"), ([A, CAT], "selecting"), ([head(1)], "selecting"), ([tail(1), A, head(0)], "selecting"), ([SORT], "sorting"), ([UNIQ, A, CAT], "sorting"),
                          ([SORT, head(1)], None), ([tail(1), UNIQ], None), ([WC], None), ([cut(1)], None), ([A, cut(1)], None)]:
            self.assertTrue(is_alike(row_sort(row=row), told), row)
            self.assertTrue(is_alike(row_sort(changed(row)), told))

    def test_of_both_or_not(self):
        words = {"cat": 0, "grep": 0, "head": 1, "tail": 1, "sort": 2, "uniq": 2, "cut": 3, "wc": 3}
        maker = RowMaker(192)
        for _ in range(300):
            one, other = [maker.row(3, maker.pick([SELECTING, SORTING, ("cat", "grep"), ALL])) for _ in range(2)]
            kinds = {words[piece[0]] for piece in one + other}
            if kinds <= {0, 1} or kinds <= {0, 2}:
                parting_stream(one, other)
            else:
                raised(UnlikeRows, parting_stream, one, other)
        self.assertEqual(vars(raised(UnlikeRows, parting_stream, [head(1)], [SORT])), {})


class Marks(unittest.TestCase):
    def test_marks(self):
        for one, other, told in [
            ([CAT], [CAT], ["", " "]), ([A], [A], ["", " ", "a", " a"]), ([A], [CAT], ["", " ", "a", " a"]), ([A], [B, A], ["", " ", "a", "b", " a", " b", "ab", "ba"]),
            ([grep("()")], [head(1)], ["", " "]), ([grep("[]")], [head(1)], ["", " "]), ([grep(".")], [tail(2)], ["", " ", "!"]), ([grep("..")], [UNIQ], ["", " ", "  ", " !"]),
            ([grep("[x-z]")], [CAT], ["", " ", "x", "y"]), ([grep("a")], [grep("[a-c]")], ["", " ", "a", "b", "c", " a"]), ([grep("[" + "".join(sign for sign in SIGNS if sign.isalpha()) + "]")], [WC], ["", " ", "A", "B"]),
        ]:
            self.assertTrue(is_alike(marks_of(one=one, other=other), told), (one, other, marks_of(one, other)))
            self.assertTrue(is_alike(marks_of(changed(other), changed(one)), told))
        self.assertTrue(is_new(marks_of([A], [A]), marks_of([A], [A])))

    def test_two_least_of_each_lot(self):
        signs = " !ab[cx"
        maker = RowMaker(193)
        for _ in range(120):
            patterns = maker.random.sample(PATTERNS, 2)
            one, other = maker.row(3, ("grep", "cat", "head"), patterns), maker.row(3, ("grep", "cat", "head"), patterns)
            greps = {pattern_text(piece[1]): piece[1] for piece in one + other if piece[0] == "grep"}
            lots = {}
            lines = ["".join(line) for size in range(4) for line in itertools.product(sorted(signs), repeat=size)]
            for line in sorted(lines, key=lambda line: (len(line), line)):
                kept = tuple(first_match(pattern, line) is not None for pattern in greps.values())
                if len(lots.setdefault(kept, [])) < 2:
                    lots[kept].append(line)
            told = marks_of(one, other)
            self.assertEqual(told, sorted([line for lot in lots.values() for line in lot], key=lambda line: (len(line), line)), list(greps))


class Streams(unittest.TestCase):
    def test_example(self):
        for one, other, told in [
            ([A, head(1)], [head(1), A], ["", "a"]), ([tail(2), head(1)], [head(1), tail(2)], ["", " ", ""]), ([head(2), head(3)], [head(2)], None), ([UNIQ, A], [A, UNIQ], ["a", "", "a"]),
            ([SORT, UNIQ], [SORT, UNIQ, SORT], None),
        ]:
            self.assertTrue(is_alike(parting_stream(one, other), told), (one, other))
            self.assertTrue(is_alike(parting_stream(one=changed(other), other=changed(one)), told))

    def test_more(self):
        for one, other, told in [
            ([head(0)], [tail(0)], None), ([head(0)], [CAT], [""]), ([head(3)], [CAT], [""] * 4), ([tail(3)], [CAT], ["", "", "", ""]), ([head(3)], [tail(3)], ["", "", "", " "]),
            ([A], [B], ["a"]), ([A, B], [B, A], None), ([grep("()")], [CAT], None), ([grep("[]")], [head(0)], None), ([tail(3), A], [A, tail(3)], ["a", "", "", ""]),
            ([head(1), tail(1)], [head(1)], None), ([head(2), tail(1), A], [head(2), A, tail(1)], ["a", ""]), ([UNIQ], [CAT], ["", ""]), ([SORT], [CAT], [" ", ""]), ([UNIQ, SORT], [SORT], ["", ""]),
            ([UNIQ, SORT], [SORT, UNIQ], ["", " ", ""]), ([UNIQ, SORT, UNIQ], [SORT, UNIQ], None), ([UNIQ, A, SORT], [A, SORT], ["a", "a"]), ([UNIQ, A, SORT], [A, UNIQ, SORT], ["a", "", "a"]),
            ([SORT, A], [A, SORT], None), ([CAT], [CAT, CAT], None), ([A, UNIQ, B], [A, B, UNIQ], ["ab", "a", "ab"]),
        ]:
            self.assertTrue(is_alike(parting_stream(one, other), told), (one, other, parting_stream(one, other)))

    def check(self, one, other, most, words):
        told = parting_stream(one, other)
        lines = marks_of(one, other)
        first = parting_within(one, other, lines, most)
        if told is None or len(told) > most:
            self.assertIsNone(first, (one, other))
        else:
            self.assertTrue(is_alike(told, first), (one, other))
        if told is not None:
            self.assertNotEqual(row_lines(one, told), row_lines(other, told))
        return told

    def test_of_all_lists_of_marks(self):
        maker = RowMaker(194)
        alike, parted = 0, 0
        for _ in range(350):
            patterns = maker.random.sample(PATTERNS, maker.pick([1, 2]))
            words = maker.pick([SELECTING, SORTING])
            one = maker.row(6, words, patterns)
            other = list(one)
            if maker.chance(50):
                maker.random.shuffle(other)
            else:
                other = maker.row(6, words, patterns)
            lines = marks_of(one, other)
            told = self.check(one, other, 4 if len(lines) <= 4 else 3 if len(lines) <= 6 else 2, words)
            alike += told is None
            parted += told is not None
        self.assertGreater(min(alike, parted), 80)

    def test_sorting_ones_by_longer_lists(self):
        maker = RowMaker(195)
        for _ in range(120):
            one, other = maker.row(6, SORTING, [A[1]]), maker.row(6, SORTING, [A[1]])
            told = parting_stream(one, other)
            if told is None:
                self.assertIsNone(parting_within(one, other, marks_of(one, other), 5), (one, other))

    def test_alike_ones_of_any_lines(self):
        maker = RowMaker(196)
        alike = 0
        while alike < 120:
            patterns = maker.random.sample(PATTERNS, 2)
            words = maker.pick([SELECTING, SORTING])
            one, other = maker.row(5, words, patterns), maker.row(5, words, patterns)
            if maker.chance(60):
                other = list(one)
                for _ in range(maker.random.randint(1, 3)):
                    other = stepped(other, maker.pick(steps_of(other))) if steps_of(other) else other
            # A grep that matches nothing can become a head, which no sorting row has.
            if one == other or row_sort(one + other) is None or parting_stream(one, other) is not None:
                continue
            alike += 1
            for _ in range(12):
                lines = [maker.pick(["", "a", "b", "ab", "b a", "x", "ba c", "axb", "zz", "B"]) for _ in range(maker.random.randint(0, 9))]
                self.assertEqual(row_lines(one, lines), row_lines(other, lines), (one, other))
                ahead, behind = maker.row(2) if maker.chance(50) else [], maker.row(2) if maker.chance(50) else []
                self.assertEqual(row_lines(ahead + one + behind, lines), row_lines(ahead + other + behind, lines))
            more = maker.row(2, words, patterns)
            self.assertIsNone(parting_stream(more + one, more + other))
            self.assertIsNone(parting_stream(one + more, other + more))

    def test_steps_lead_to_alike_ones(self):
        maker = RowMaker(197)
        for _ in range(150):
            words = maker.pick([SELECTING, SORTING])
            row = maker.row(6, words, maker.random.sample(PATTERNS, 2))
            for step in steps_of(row):
                other = stepped(row, step)
                if row_sort(row + other) is not None:
                    self.assertIsNone(parting_stream(row, other), (row, step))


if __name__ == "__main__":
    unittest.main()
