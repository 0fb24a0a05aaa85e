"""Of [17.3] the chains, and promise [17.6]."""

import unittest

from everypipe.outcomes import outcome_of
from everypipe.refusals import BadRow, BadTruth
from everypipe.rowchains import is_row_chain, rewrite_fault, row_chain
from everypipe.rowsteps import last_asked, last_row, stepped, steps_of
from everypipe.scriptmachines import script_machine
from helper import any_objects, changed, is_alike, is_new
from made_machines import raised
from row_maker import A, B, CAT, SORT, UNIQ, WC, RowMaker, cut, head, row_script, tail
from test_rows import NO_ROWS


class Chains(unittest.TestCase):
    def test_pairs(self):
        one, other = [B, CAT, A, SORT, SORT, head(5), head(3)], [A, B, SORT, head(3)]
        told = row_chain(one=one, other=other)
        self.assertIsInstance(told, tuple)
        self.assertTrue(all(isinstance(steps, list) and all(isinstance(step, tuple) for step in steps) for steps in told))
        self.assertIs(is_row_chain(one=one, other=other, thing=told), True)
        self.assertIs(is_row_chain(one, other, changed(told)), True)
        self.assertIs(is_row_chain(changed(one), changed(other), told), True)
        self.assertTrue(is_new(told, row_chain(one, other)))
        self.assertIsNone(row_chain([A], [B]))
        self.assertTrue(is_row_chain([CAT], [CAT], ([], [])))
        self.assertTrue(is_row_chain([cut(2), head(3)], [head(3), cut(2)], ([("cut head", 0)], [])))

    def test_no_chains(self):
        one, other = [CAT, SORT, A], [A, SORT]
        for thing in any_objects() + [([], []), ([("cat", 0)], []), ([("cat", 0), ("sort grep", 0), ("cat", 0)], []), ([("sort grep", 0), ("cat", 0)], []), ([("cat", 0), ("sort grep", 0)],),
                                      ([("cat", 0), ("sort grep", 0)], None), ([("cat", 0), ("sort grep", 0)], [("cat", 0)]), ([("cat", False), ("sort grep", 0)], []), ([("cat", 0), None], []),
                                      (None, []), ([], [], [])]:
            self.assertIs(is_row_chain(one, other, thing), False)
        for thing in [([("cat", 0), ("sort grep", 0)], []), ([("sort grep", 1), ("cat", 0)], [])]:
            self.assertIs(is_row_chain(one, other, thing), True)

    def test_just_where_the_last_rows_are_one(self):
        maker = RowMaker(141)
        chains = 0
        for _ in range(300):
            one = maker.row(6)
            other = one
            for _ in range(maker.random.randint(0, 3)):
                other = stepped(other, maker.pick(steps_of(other))) if steps_of(other) else other
            other = maker.pick([other, other, maker.row(6)])
            told = row_chain(one, other)
            self.assertEqual(told is not None, last_row(one) == last_row(other))
            if told is not None:
                chains += 1
                self.assertTrue(is_row_chain(one, other, told))
                self.assertTrue(is_row_chain(other, one, told[::-1]))
                for steps in told:
                    if steps:
                        self.assertEqual(is_row_chain(one, other, (told[0][:-1], told[1])) and bool(told[0]), False)
        self.assertGreater(chains, 150)

    def test_wrong(self):
        for function in (lambda one, other: row_chain(one, other), lambda one, other: is_row_chain(one, other, None), lambda one, other: rewrite_fault(one, other, None)):
            for thing in any_objects() + NO_ROWS:
                self.assertIs(raised(BadRow, function, thing, None).row, thing)
                self.assertIs(raised(BadRow, function, [CAT], thing).row, thing)
        for thing in any_objects():
            if not isinstance(thing, bool):
                self.assertIs(raised(BadTruth, rewrite_fault, [CAT], [CAT], thing).is_asked, thing)


class LetBy(unittest.TestCase):
    def test_faults(self):
        self.assertIsNone(rewrite_fault([SORT, A], [A, SORT], False))
        told = rewrite_fault(one=[SORT, A], other=[A, SORT], is_asked=True)
        self.assertTrue(is_alike(told, ([SORT, A], [A, SORT])))
        self.assertTrue(is_alike(rewrite_fault(changed([CAT, B, A]), changed([tail(0)]), False), ([A, B], [head(0)])))
        self.assertIsNone(rewrite_fault([CAT, SORT], [SORT], True))

    def test_by_last_rows(self):
        maker = RowMaker(142)
        for _ in range(200):
            one, other = maker.row(4), maker.row(3)
            other = maker.pick([other, stepped(one, steps_of(one)[0]) if steps_of(one) else one])
            for is_asked, last in ((False, last_row), (True, last_asked)):
                pair = (last(one), last(other))
                self.assertTrue(is_alike(rewrite_fault(one, other, is_asked), None if pair[0] == pair[1] else pair))

    def test_scripts_leave_the_same(self):
        maker = RowMaker(143)
        let_by = 0
        while let_by < 150:
            one = maker.row(5)
            other = one
            for _ in range(maker.random.randint(1, 4)):
                other = stepped(other, maker.pick(steps_of(other))) if steps_of(other) else other
            is_asked = maker.chance(50)
            if one == other or rewrite_fault(one, other, is_asked) is not None:
                continue
            let_by += 1
            lines = maker.lines(5)
            left = []
            for row in (one, other, one):
                machine = script_machine(row_script(row), {}, [], lines, {(): maker.pick([1, 1, 2, 8]), (0, 0): maker.pick([1, 3])})
                machine.run([maker.random.randrange(6) for _ in range(maker.pick([0, 20, 200]))], 2000)
                left.append(outcome_of(machine))
            self.assertEqual([told[2] for told in left], [left[0][2]] * 3, (one, other))
            if is_asked:
                self.assertEqual([told[1] for told in left], [left[0][1]] * 3, (one, other))


if __name__ == "__main__":
    unittest.main()
