"""Promise [18.3], and of [18.5] what stands in this file."""

import unittest

from everypipe.allruns import stands_of
from everypipe.refusals import BadRowOf
from everypipe.rowparts import first_unlike, own_rows, parting
from helper import any_objects, changed, is_alike, is_new
from made_machines import MachineMaker, own_parts, raised
from test_machines import Example
from test_orders import FORMS, NO_FORMS

P, Q, R, PIPE = (0,), (1,), (2,), (0,)
put, take, over_p, over_q = (P, "put", PIPE, "a"), (Q, "take", PIPE, "a"), (P, "over", None, 0), (Q, "over", None, 0)


class Parts(unittest.TestCase):
    def test_own_rows(self):
        row = [take, put, over_q, (R, "list", "", ["f"]), over_p]
        told = own_rows(row=row)
        self.assertTrue(is_alike(told, {P: [put, over_p], Q: [take, over_q], R: [(R, "list", "", ["f"])]}))
        self.assertTrue(is_alike(own_rows(changed(row)), told))
        self.assertTrue(is_new(told, row, own_rows(row)))
        self.assertEqual(own_rows([]), {})
        self.assertEqual(list(own_rows([((2,), "over", None, 0), ((0, 1), "over", None, 0), ((0,), "over", None, 0)])), [(0,), (0, 1), (2,)])

    def test_parting(self):
        for one, other, told, unlike in [
            ([], [], None, None), ([put, take], [put, take], None, None), ([put, take], [take, put], None, 0), ([put], [put, take], (Q, 0), 1), ([put, take], [], (P, 0), 0),
            ([put, over_p], [put, (P, "over", None, 1)], (P, 1), 1), ([take, put, over_q], [put, take, over_p], (P, 1), 0), ([put, over_p, take], [put, over_p, over_q], (Q, 0), 2),
        ]:
            self.assertTrue(is_alike(parting(one=one, other=other), told), (one, other))
            self.assertTrue(is_alike(parting(changed(other), one), told))
            self.assertTrue(is_alike(first_unlike(one=one, other=other), unlike))
            self.assertTrue(is_alike(first_unlike(other, changed(one)), unlike))

    def test_example(self):
        rows = stands_of(Example().machine(), 9)
        self.assertTrue(is_alike(parting(rows[0], rows[2]), (P, 1)))
        self.assertEqual((own_rows(rows[0])[P][1][1], own_rows(rows[2])[P][1][1]), ("put", "broken"))

    def test_one_of_both(self):
        maker = MachineMaker(171)
        alike = 0
        for _ in range(200):
            machine = maker.machine()
            rows = []
            for _ in range(2):
                copy = machine.copy()
                rows.append(copy.run(maker.schedule(), maker.random.randrange(30)))
            one, other = own_parts(rows[0]), own_parts(rows[1])
            told = parting(*rows)
            if told is None:
                self.assertEqual(one, other)
                alike += 1
            else:
                name, number = told
                self.assertTrue(all(one.get(less, []) == other.get(less, []) for less in set(one) | set(other) if less < name))
                here, there = one.get(name, []), other.get(name, [])
                self.assertEqual(here[:number], there[:number])
                self.assertNotEqual(here[number:number + 1], there[number:number + 1])
            at = first_unlike(*rows)
            self.assertEqual(at is None, rows[0] == rows[1])
            if at is not None:
                self.assertEqual(rows[0][:at], rows[1][:at])
                self.assertNotEqual(rows[0][at:at + 1], rows[1][at:at + 1])
        self.assertGreater(alike, 10)

    def test_wrong(self):
        for function in (own_rows, lambda row: parting(row, None), lambda row: parting([put], row), lambda row: first_unlike(row, None), lambda row: first_unlike([], row)):
            for thing in any_objects():
                if not isinstance(thing, (list, tuple)):
                    self.assertEqual(raised(BadRowOf, function, thing).index, 0)
            for deed in NO_FORMS + [((10 ** 19,), "over", None, 0)]:
                self.assertEqual(raised(BadRowOf, function, [put, take, deed]).index, 2)
        self.assertEqual(len(own_rows(FORMS)), 2)


if __name__ == "__main__":
    unittest.main()
