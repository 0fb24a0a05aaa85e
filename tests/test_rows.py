"""Promise [17.1], and of [17.5] what stands in this file."""

import unittest

from everypipe.givens import plain_of
from everypipe.refusals import BadLines, BadRow
from everypipe.rowmeanings import row_meaning
from everypipe.rows import dead_pieces, is_row, row_lines, row_status
from helper import any_objects, changed, is_alike, is_new
from made_machines import raised
from row_maker import A, ALL, B, CAT, SORT, UNIQ, WC, RowMaker, cut, head, tail

NO_ROWS = [[("yes", "a")], [("seq", 1, 2)], [("true",)], [("false",)], [("tee", 3)], [("paste", 3)], [CAT, ("tee", 3)], [("cat", 1)], [("head",)], [("head", -1)],
           [("head", True)], [("head", "1")], [("cut", 0)], [("tail", None)], [("grep", "a")], [("grep", ("of", ""))], [("grep",)], ["cat"], [CAT, None], CAT, ("cat",),
           [[CAT]], {0: CAT}, [("uniq", 1)], [("other",)]]


class Rows(unittest.TestCase):
    def test_is_row(self):
        maker = RowMaker(121)
        for thing in any_objects() + NO_ROWS:
            self.assertIs(is_row(thing), False)
        for row in [[CAT], (CAT,), [["cat"]], [["grep", ["of", "a"]]], [A, SORT, UNIQ, head(0), tail(0), cut(1), WC], [head(60), tail(60), cut(60)], [CAT] * 8]:
            self.assertIs(is_row(thing=row), True)
        for _ in range(100):
            row = maker.row()
            self.assertIs(is_row(row), True)
            self.assertIs(is_row(changed(row)), True)

    def test_lines(self):
        for row, lines, told in [
            ([CAT], ["b", "a"], ["b", "a"]), ([A], ["a", "b", "ba", ""], ["a", "ba"]), ([SORT], ["b", "ab", "a", "", "a"], ["", "a", "a", "ab", "b"]),
            ([UNIQ], ["a", "a", "b", "a"], ["a", "b", "a"]), ([head(2)], ["c", "b", "a"], ["c", "b"]), ([tail(2)], ["c", "b", "a"], ["b", "a"]), ([head(0)], ["a"], []),
            ([tail(0)], ["a"], []), ([head(60)], ["a"], ["a"]), ([cut(2)], ["a b c", "x", ""], ["b", "", ""]), ([WC], ["a", "b"], ["2"]), ([WC], [], ["0"]),
            ([A, SORT, head(1)], ["b", "ca", "a"], ["a"]), ([SORT, UNIQ, WC], ["a", "b", "a"], ["2"]), ([tail(2), cut(1)], ["x y", "z w", "v"], ["z", "v"]),
            ([WC, WC], ["a", "b"], ["1"]), ([head(0), WC], ["a"], ["0"]),
        ]:
            self.assertTrue(is_alike(row_lines(row, lines), told), row)
            self.assertTrue(is_alike(row_lines(row=changed(row), lines=tuple(lines)), told))

    def test_statuses(self):
        for row, lines, told in [([A], ["a"], 0), ([A], ["b"], 1), ([A], [], 1), ([A, CAT], [], 0), ([B, A], ["a"], 1), ([B, A], ["ab"], 0), ([A, WC], ["b"], 0), ([head(0), A], ["a"], 1),
                                 ([head(0)], [], 0), ([SORT], [], 0)]:
            self.assertTrue(is_alike(row_status(row, lines), told), row)
            self.assertTrue(is_alike(row_status(row=changed(row), lines=tuple(lines)), told))

    def test_as_given_programs(self):
        maker = RowMaker(122)
        for _ in range(300):
            row, lines = maker.row(), maker.lines()
            told = lines
            for piece in row:
                outs, status = plain_of(piece, {0: told}, 99)
                told = outs.get(1, [])
            self.assertTrue(is_alike(row_lines(row, lines), told))
            self.assertIs(row_status(row, lines), status)
            meaning = row_meaning(row, lines, 99)
            self.assertEqual((meaning[0], meaning[1][-1]), (told, status))

    def test_what_is_passed_and_told(self):
        row, lines = [CAT, ["head", 5]], ["a", "b"]
        told = row_lines(row, lines)
        self.assertTrue(is_new(told, lines, row_lines(row, lines)))
        row_status(row, lines)
        dead_pieces(row)
        self.assertEqual((row, lines), ([CAT, ["head", 5]], ["a", "b"]))

    def test_dead_pieces(self):
        for row, told in [([SORT, UNIQ, head(0), WC], 2), ([CAT], 0), ([head(0)], 0), ([CAT, head(0)], 1), ([head(0), A, head(0)], 2), ([head(0), A], 0), ([CAT, tail(0)], 0),
                          ([CAT, head(1)], 0), ([["cat"], ["head", 0]], 1), ([CAT] * 7 + [head(0)], 7)]:
            self.assertTrue(is_alike(dead_pieces(row=row), told), row)

    def test_dead_pieces_need_not_be(self):
        maker = RowMaker(123)
        for _ in range(200):
            row = maker.row()
            told = dead_pieces(row)
            self.assertEqual([at for at in range(len(row)) if row[at] == ("head", 0)][-1:] or [0], [told])
            self.assertEqual(row_lines(row[told:], maker.lines()) if row[told] == ("head", 0) else 0, row_lines(row, maker.lines()) if row[told] == ("head", 0) else 0)

    def test_wrong(self):
        for thing in any_objects() + NO_ROWS:
            for function in (row_lines, row_status, lambda row, lines: dead_pieces(row)):
                self.assertIs(raised(BadRow, function, thing, None).row, thing)
        for function in (row_lines, row_status):
            for lines, index in [(None, 0), ("ab", 0), ({}, 0), (["a", 1], 1), (["a", "b", "c\n"], 2), (["x" * 61], 0), ([None], 0)]:
                self.assertEqual(raised(BadLines, function, [CAT], lines).index, index)
        self.assertEqual(sorted(set(ALL)), sorted({piece[0] for piece in [CAT, A, SORT, UNIQ, head(1), tail(1), cut(1), WC]}))


if __name__ == "__main__":
    unittest.main()
