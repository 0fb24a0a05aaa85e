"""Promises [17.2], [17.3], [17.4], of [17.5] row_needs, and the example [17.7]."""

import unittest

from everypipe.errors import BadMany
from everypipe.patterntexts import pattern_text, read_pattern
from everypipe.refusals import BadRow, BadStep
from everypipe.rows import dead_pieces, row_lines, row_status
from everypipe.rowsteps import keeps_status, last_asked, last_row, row_needs, stepped, steps_of
from helper import any_objects, changed, is_alike, is_new
from made_machines import raised
from row_maker import A, B, CAT, PATTERNS, SORT, UNIQ, WC, RowMaker, cut, head, tail
from test_rows import NO_ROWS

ENDS, NONE = ("grep", read_pattern("a*")), ("grep", read_pattern("[]a"))
ORDER = ["cat", "greps", "sorts", "uniqs", "heads", "tails", "sort grep", "sort uniq grep", "sort uniq sort", "cut head", "cut tail", "idle", "nothing", "count"]


class Steps(unittest.TestCase):
    def check(self, row, *told):
        """The steps of a row are just these, each with the row behind it."""
        self.assertTrue(is_alike(steps_of(row), [step for step, _ in told]), (row, steps_of(row)))
        self.assertTrue(is_alike(steps_of(row=changed(row)), [step for step, _ in told]))
        for step, other in told:
            self.assertTrue(is_alike(stepped(row, step), other), (row, step))
            self.assertTrue(is_alike(stepped(row=changed(row), step=list(step)), other))
        for word in ORDER + ["other", ""]:
            for at in range(-1, len(row) + 1):
                if (word, at) not in [step for step, _ in told]:
                    self.assertEqual(raised(BadStep, stepped, row, (word, at)).thing, (word, at))

    def test_cat(self):
        self.check([CAT])
        self.check([CAT, SORT], (("cat", 0), [SORT]))
        self.check([SORT, CAT], (("cat", 1), [SORT]))
        self.check([CAT, CAT], (("cat", 0), [CAT]), (("cat", 1), [CAT]))

    def test_greps(self):
        self.check([A, B])
        self.check([B, A], (("greps", 0), [A, B]))
        self.check([A, A], (("greps", 0), [A]))
        self.check([B, ["grep", ["of", "b"]]], (("greps", 0), [B]))
        self.check([["grep", ["of", "b"]], A], (("greps", 0), [A, B]))

    def test_pairs_of_one_kind(self):
        self.check([SORT, SORT], (("sorts", 0), [SORT]))
        self.check([UNIQ, UNIQ], (("uniqs", 0), [UNIQ]))
        self.check([head(3), head(2)], (("heads", 0), [head(2)]))
        self.check([head(2), head(3)], (("heads", 0), [head(2)]))
        self.check([tail(60), tail(60)], (("tails", 0), [tail(60)]))
        self.check([tail(3), tail(1)], (("tails", 0), [tail(1)]))
        self.check([head(1), tail(2)])
        self.check([head(0), head(0)], (("heads", 0), [head(0)]))

    def test_sorts(self):
        self.check([SORT, A], (("sort grep", 0), [A, SORT]))
        self.check([SORT, UNIQ, A], (("sort uniq grep", 0), [A, SORT, UNIQ]))
        self.check([SORT, UNIQ, SORT], (("sort uniq sort", 0), [SORT, UNIQ]))
        self.check([UNIQ, A])
        self.check([UNIQ, SORT])
        self.check([SORT, UNIQ])
        self.check([A, SORT])

    def test_cuts(self):
        self.check([cut(2), head(3)], (("cut head", 0), [head(3), cut(2)]))
        self.check([cut(2), tail(3)], (("cut tail", 0), [tail(3), cut(2)]))
        self.check([head(3), cut(2)])
        self.check([cut(1), cut(1)])
        self.check([cut(1), A])

    def test_idle(self):
        self.check([ENDS], (("idle", 0), [CAT]))
        self.check([NONE], (("idle", 0), [head(0)]))
        self.check([("grep", read_pattern("()"))], (("idle", 0), [CAT]))
        self.check([("grep", read_pattern("[]"))], (("idle", 0), [head(0)]))
        self.check([WC, ENDS], (("idle", 1), [WC, CAT]))

    def test_nothing(self):
        self.check([tail(0)], (("nothing", 0), [head(0)]))
        self.check([head(0)])
        for piece in [A, SORT, UNIQ, tail(2)]:
            self.check([piece, head(0)], (("nothing", 0), [head(0)]))
            self.check([head(0), piece], (("nothing", 0), [head(0)]))
        self.check([WC, head(0)], (("nothing", 0), [head(0)]))
        self.check([head(0), WC])
        self.check([head(0), cut(1)], (("nothing", 0), [head(0)]))
        self.check([cut(1), head(0)], (("cut head", 0), [head(0), cut(1)]), (("nothing", 0), [head(0)]))
        self.check([CAT, head(0)], (("cat", 0), [head(0)]), (("nothing", 0), [head(0)]))
        self.check([head(0), CAT], (("cat", 1), [head(0)]))
        self.check([head(2), head(0)], (("heads", 0), [head(0)]), (("nothing", 0), [head(0)]))
        self.check([head(0), head(2)], (("heads", 0), [head(0)]))
        # Of a tail 0 the first that fits is that it is head 0 by itself, whatever stands behind it; behind a head 0 it is not with it.
        self.check([tail(0), head(0)], (("nothing", 0), [head(0), head(0)]))
        self.check([head(0), tail(0)], (("nothing", 1), [head(0), head(0)]))
        self.check([SORT, tail(0)], (("nothing", 1), [SORT, head(0)]))
        self.check([tail(0), tail(3)], (("tails", 0), [tail(0)]), (("nothing", 0), [head(0), tail(3)]))

    def test_count(self):
        self.check([cut(3), WC], (("count", 0), [WC]))
        self.check([SORT, WC], (("count", 0), [WC]))
        for piece in [UNIQ, head(2), tail(1), WC, A]:
            self.check([piece, WC])
        self.check([WC, SORT])

    def test_among_others(self):
        for pieces, word, behind in [
            ([CAT], "cat", []), ([B, A], "greps", [A, B]), ([SORT, SORT], "sorts", [SORT]), ([UNIQ, UNIQ], "uniqs", [UNIQ]), ([head(3), head(2)], "heads", [head(2)]),
            ([tail(3), tail(4)], "tails", [tail(3)]), ([SORT, A], "sort grep", [A, SORT]), ([SORT, UNIQ, A], "sort uniq grep", [A, SORT, UNIQ]), ([SORT, UNIQ, SORT], "sort uniq sort", [SORT, UNIQ]),
            ([cut(1), head(2)], "cut head", [head(2), cut(1)]), ([cut(1), tail(2)], "cut tail", [tail(2), cut(1)]), ([ENDS], "idle", [CAT]), ([tail(0)], "nothing", [head(0)]),
            ([SORT, head(0)], "nothing", [head(0)]), ([cut(1), WC], "count", [WC]), ([SORT, WC], "count", [WC]),
        ]:
            self.assertIn((word, 1), steps_of([WC, *pieces, WC]))
            self.assertTrue(is_alike(stepped([WC, *pieces, WC], (word, 1)), [WC, *behind, WC]))
            self.assertTrue(is_alike(stepped([WC, WC, *pieces, WC, WC], (word, 2)), [WC, WC, *behind, WC, WC]))

    def test_several(self):
        self.check([SORT, SORT, A, CAT, head(0)], (("sorts", 0), [SORT, A, CAT, head(0)]), (("sort grep", 1), [SORT, A, SORT, CAT, head(0)]), (("cat", 3), [SORT, SORT, A, head(0)]),
                   (("nothing", 3), [SORT, SORT, A, head(0)]))
        self.check([ENDS, ENDS], (("greps", 0), [ENDS]), (("idle", 0), [CAT, ENDS]), (("idle", 1), [ENDS, CAT]))

    def test_their_order(self):
        maker = RowMaker(131)
        for _ in range(300):
            told = steps_of(maker.row())
            self.assertEqual(told, sorted(told, key=lambda step: (step[1], ORDER.index(step[0]))))
            self.assertEqual(len(set(told)), len(told))

    def test_same_lines_and_less(self):
        maker = RowMaker(132)
        for _ in range(300):
            row = maker.row()
            for step in steps_of(row):
                other = stepped(row, step)
                for _ in range(4):
                    lines = maker.lines()
                    self.assertEqual(row_lines(row, lines), row_lines(other, lines), (row, step))
                    if keeps_status(row, step):
                        self.assertEqual(row_status(row, lines), row_status(other, lines), (row, step))
                for many in range(4):
                    self.assertEqual(row_needs(row, many), row_needs(other, many))
                if len(other) == len(row):
                    self.assertTrue(self.is_less(row, other), (row, step))
                else:
                    self.assertLess(len(other), len(row))

    def is_less(self, row, other):
        """Whether a row as long is made less: a grep, a head, a tail further ahead, a grep ahead of one of greater text, or a piece made another one."""
        unlike = [at for at in range(len(row)) if row[at] != other[at]]
        if len(unlike) == 1:
            old, new = row[unlike[0]], other[unlike[0]]
            return (old == tail(0) and new == head(0)) or (old[0] == "grep" and new in (CAT, head(0)))
        first = other[unlike[0]]
        if first[0] == "grep" and row[unlike[0]][0] == "grep":
            return pattern_text(first[1]) < pattern_text(row[unlike[0]][1])
        return first[0] in ("grep", "head", "tail")

    def test_what_is_passed_and_told(self):
        row = [["cat"], ["grep", ["of", "b"]], A]
        self.assertTrue(is_new(stepped(row, ("cat", 0)), row, last_row(row)))
        steps_of(row), last_row(row), last_asked(row), row_needs(row, 2), keeps_status(row, ("cat", 0))
        self.assertEqual(row, [["cat"], ["grep", ["of", "b"]], A])

    def test_wrong(self):
        one = lambda function: lambda row, more: function(row)
        for thing in any_objects() + NO_ROWS:
            for function in (one(steps_of), stepped, one(last_row), keeps_status, one(last_asked), row_needs):
                self.assertIs(raised(BadRow, function, thing, None).row, thing)
        for thing in any_objects() + [("cat",), ("cat", 0, 0), ("cat", True), ("cat", None), ("cat", "0"), ("cat", -1), ("cat", 1), ("dog", 0), (0, "cat"), {"cat": 0}, "cat"]:
            for function in (stepped, keeps_status):
                self.assertIs(raised(BadStep, function, [CAT, SORT], thing).thing, thing)
        for thing in [None, -1, True, "1", [1]]:
            self.assertIs(raised(BadMany, row_needs, [CAT], thing).many, thing)


class Lasts(unittest.TestCase):
    def test_example(self):
        row = [B, CAT, A, SORT, SORT, head(5), head(3)]
        self.assertTrue(is_alike(last_row(row), [A, B, SORT, head(3)]))
        self.assertTrue(is_alike(last_row([SORT, A]), [A, SORT]))
        self.assertIs(keeps_status([SORT, A], ("sort grep", 0)), False)
        self.assertTrue(is_alike(last_asked([SORT, A]), [SORT, A]))
        for row in ([cut(2), head(3)], [head(3), cut(2)]):
            self.assertTrue(is_alike(last_row(row), [head(3), cut(2)]))
        self.assertEqual(dead_pieces([SORT, UNIQ, head(0), WC]), 2)
        self.assertTrue(is_alike(last_row([SORT, UNIQ, head(0), WC]), [head(0), WC]))
        self.assertTrue(is_alike(row_needs([cut(1), head(3)], 2), 2))
        self.assertIsNone(row_needs([SORT], 1))

    def test_eight_steps_at_most(self):
        def most(row):
            return max([1 + most(stepped(row, step)) for step in steps_of(row)], default=0)
        self.assertLessEqual(most([B, CAT, A, SORT, SORT, head(5), head(3)]), 8)

    def test_all_ways_end_in_one_row(self):
        maker = RowMaker(133)
        ways = 0
        for _ in range(250):
            row = maker.row(7)
            met, waiting, lasts = {tuple(row)}, [row], set()
            while waiting and len(met) < 400:
                here = waiting.pop()
                behind = [stepped(here, step) for step in steps_of(here)]
                if not behind:
                    lasts.add(tuple(here))
                for other in behind:
                    if tuple(other) not in met:
                        met.add(tuple(other))
                        waiting.append(other)
            if not waiting:
                self.assertEqual(lasts, {tuple(last_row(row))})
                ways += len(met) > 10
        self.assertGreater(ways, 50)

    def test_lasts_by_first_steps(self):
        maker = RowMaker(134)
        for _ in range(200):
            row = maker.row()
            here = row
            while steps_of(here):
                here = stepped(here, steps_of(here)[0])
            self.assertTrue(is_alike(last_row(row=changed(row)), here))
            here = row
            while [step for step in steps_of(here) if keeps_status(here, step)]:
                here = stepped(here, [step for step in steps_of(here) if keeps_status(here, step)][0])
            self.assertTrue(is_alike(last_asked(row=changed(row)), here))
            lines = maker.lines()
            self.assertEqual((row_lines(row, lines), row_status(row, lines)), (row_lines(here, lines), row_status(here, lines)))
            self.assertEqual(row_lines(row, lines), row_lines(last_row(row), lines))

    def test_keeps_status(self):
        for row, step, told in [([CAT, SORT], ("cat", 0), True), ([A, CAT], ("cat", 1), False), ([CAT, A], ("cat", 0), True), ([B, A], ("greps", 0), True), ([ENDS], ("idle", 0), False),
                                ([NONE], ("idle", 0), False), ([head(0), A], ("nothing", 0), False), ([A, head(0)], ("nothing", 0), True), ([SORT, UNIQ, A], ("sort uniq grep", 0), False),
                                ([SORT, A, CAT], ("sort grep", 0), True), ([cut(1), tail(2)], ("cut tail", 0), True), ([SORT, WC], ("count", 0), True), ([tail(0)], ("nothing", 0), True)]:
            self.assertIs(keeps_status(row=row, step=step), told, row)
            self.assertIs(keeps_status(changed(row), list(step)), told)


class Needs(unittest.TestCase):
    def test_needs(self):
        for row, many, told in [
            ([CAT], 3, 3), ([cut(2)], 3, 3), ([head(2)], 3, 2), ([head(2)], 1, 1), ([UNIQ], 1, 1), ([UNIQ], 2, None), ([UNIQ], 0, 0), ([A], 1, None), ([A], 0, 0), ([SORT], 0, 0),
            ([WC], 0, 0), ([WC], 1, None), ([tail(1)], 1, None), ([head(0)], 5, 0), ([SORT, head(0)], 5, 0), ([head(0), WC], 1, None), ([head(2), SORT], 1, None),
            ([SORT, cut(1)], 2, None), ([head(3), UNIQ, head(1)], 5, 1), ([UNIQ, head(1), cut(1), CAT], 9, 1), ([head(60)], 60, 60), ([tail(0)], 7, 0), ([NONE, WC], 0, 0), ([NONE, SORT], 3, 0),
            ([ENDS], 4, 4), ([head(1), UNIQ], 2, None),
        ]:
            self.assertTrue(is_alike(row_needs(row, many), told), (row, many))
            self.assertTrue(is_alike(row_needs(row=changed(row), many=many), told))

    def test_so_many_are_enough(self):
        maker = RowMaker(135)
        enough = 0
        for _ in range(500):
            row, many = maker.row(5), maker.random.randint(0, 3)
            needs = row_needs(row, many)
            if needs is not None:
                enough += 1
                first = [maker.pick(["a", "b", "ab", ""]) for _ in range(needs)]
                one, other = first + maker.lines(3), first + maker.lines(3)
                self.assertEqual(row_lines(row, one)[:many], row_lines(row, other)[:many], row)
        self.assertGreater(enough, 150)
        self.assertEqual(len(PATTERNS), 14)


if __name__ == "__main__":
    unittest.main()
