"""Promises [6.1] (the forms of rows) and [6.2]."""

import unittest

from everypipe.errors import BadProgram, BadRows
from everypipe.actors import actor_of, stand
from everypipe.programs import Program
from helper import any_objects, changed, is_alike, is_new

ROWS = [
    ("take", 0, "a", 13), ("put", 31, [("text", "x y"), ("line", "h"), ("count", "n")]), ("close", 3), ("set", "b", []),
    ("field", "c", "d", 1), ("match", "a*b|c", "e", 0), ("same", "f", "g", 14), ("count", "i", -5), ("count", "j", "k"),
    ("less", "l", 1000000, 2), ("less", "m", "n", 2), ("jump", 14), ("keep", [("text", "")]), ("first", "a", 3),
]
ALL_ROWS = [*ROWS, ("least", "h", 0), ("end", 255)]


class Programs(unittest.TestCase):
    def test_rows(self):
        for rows in [[], [("jump", 1)], [("jump", 0)], ALL_ROWS]:
            for given in (rows, changed(rows)):
                program = Program(given)
                self.assertTrue(is_alike(program.rows(), rows))
                self.assertTrue(is_new(program.rows(), given, program.rows()))
        self.assertTrue(is_alike(Program(rows=ALL_ROWS).rows(), ALL_ROWS))

    def test_what_is_changed_later(self):
        parts = [("text", "x")]
        rows = [("put", 1, parts)]
        program = Program(rows)
        parts.append(("line", "a"))
        rows.append(("end", 0))
        program.rows()[0][2].append("y")
        program.rows().append("z")
        self.assertEqual(program.rows(), [("put", 1, [("text", "x")])])

    def test_equal(self):
        self.assertTrue(Program(ALL_ROWS) == Program(changed(ALL_ROWS)))
        self.assertFalse(Program(ALL_ROWS) != Program(changed(ALL_ROWS)))
        self.assertFalse(Program(ROWS) == Program(ALL_ROWS))
        self.assertTrue(Program([("end", 0)]) != Program([("end", 1)]))
        self.assertFalse(Program([]) == [])
        self.assertFalse([] == Program([]))
        for thing in any_objects():
            self.assertFalse(Program([]) == thing)
            self.assertFalse(Program(ALL_ROWS) == thing)

    def test_right_rows(self):
        for row in [("take", 31, "h", 2), ("end", 0), ("field", "a", "a", 1000), ("count", "i", 10 ** 12), ("match", "[]", "a", 0),
                    ("put", 0, []), ("put", 0, [("text", "x" * 60)]), ("jump", 2), ("set", "a", [("count", "i")])]:
            self.assertTrue(is_alike(Program([("end", 0), row]).rows()[1], row))

    def test_wrong_rows(self):
        wrong_parts = [None, "a", 1, {}, ["a"], [()], [("text",)], [("text", 1)], [("text", "%")], [("text", "x" * 61)],
                       [("line", "i")], [("line", "ab")], [("line", "")], [("count", "a")], [("count", 1)], [("other", "a")],
                       [("text", "a", 1)], [("text", "\n")], [["text", None]]]
        wrong = [None, 1, "end", (), ("end",), ("end", 0, 0), ("other", 1), ("end", 256), ("end", -1), ("end", True), ("end", None),
                 ("end", "0"), ("take", 32, "a", 0), ("take", -1, "a", 0), ("take", True, "a", 0), ("take", 0, "i", 0),
                 ("take", 0, "ab", 0), ("take", 0, "", 0), ("take", 0, None, 0), ("take", 0, "a", -1), ("take", 0, "a", True),
                 ("take", 0, "a"), ("take", 0, "a", 0, 0), ("take", 0, ["a"], 0), ("close", 32), ("close",), ("close", None),
                 ("close", 0, 0), ("field", "a", "b", 0), ("field", "a", "b", -1), ("field", "a", "b", True), ("field", "i", "b", 1),
                 ("field", "a", "i", 1), ("field", "a", "b", "1"), ("field", "a", "b"), ("match", "*", "a", 0), ("match", "", "a", 0),
                 ("match", 1, "a", 0), ("match", ("any",), "a", 0), ("match", "a", "i", 0), ("match", "a", "a", None),
                 ("same", "a", "i", 0), ("same", "a", 1, 0), ("same", "a", "b"), ("count", "a", 1), ("count", "i", "a"),
                 ("count", "i", True), ("count", "i", None), ("count", 1, 1), ("less", 1, 2, 0), ("count", "i"), ("count", "i", "ij"), ("count", "o", 1),
                 ("less", "i", "a", 0), ("less", "i", False, 0), ("less", "a", 1, 0), ("less", "i", 1), ("jump", -1), ("jump", None),
                 ("jump", False), ("jump",), ("jump", "0"), ("first", "i", 0), ("first", "a"), ("least", "a", -1), ("least", 1, 0),
                 (["end"], 0), ("End", 0), {"end": 0}, ("keep",), ("keep", "a"), ("set", "a"), ("set", "i", []), ("put", 0),
                 ("put", 32, [])]
        wrong += [("put", 0, parts) for parts in wrong_parts] + [("set", "a", parts) for parts in wrong_parts]
        wrong += [("keep", parts) for parts in wrong_parts]
        for row in wrong:
            with self.assertRaises(BadRows) as caught:
                Program([("end", 0), ("jump", 4), row, None])
            self.assertEqual(caught.exception.index, 2, row)
            with self.assertRaises(BadRows) as caught:
                Program((changed(row) if isinstance(row, (list, tuple)) else row,))
            self.assertEqual(caught.exception.index, 0, row)

    def test_rows_to_go_to(self):
        for row in [("take", 0, "a", 3), ("match", "a", "a", 3), ("same", "a", "a", 3), ("less", "i", 1, 3), ("jump", 3),
                    ("first", "a", 3), ("least", "a", 3)]:
            Program([("end", 0), row, ("end", 0)])
            with self.assertRaises(BadRows) as caught:
                Program([("end", 0), row])
            self.assertEqual(caught.exception.index, 1)
            with self.assertRaises(BadRows) as caught:
                Program([row, ("end", 256)])
            self.assertEqual(caught.exception.index, 0)

    def test_no_list(self):
        for thing in [None, 1, "a", {}, True, "", Program([])]:
            with self.assertRaises(BadRows) as caught:
                Program(thing)
            self.assertEqual(caught.exception.index, 0)
        for thing in any_objects():
            if thing not in ([], ()):
                with self.assertRaises(BadRows):
                    Program(thing)
            with self.assertRaises(BadRows) as caught:
                Program([("end", 0), thing])
            self.assertEqual(caught.exception.index, 1)

    def test_no_program(self):
        for thing in [*any_objects(), ALL_ROWS]:
            for function in (actor_of, lambda program: stand(program, None)):
                with self.assertRaises(BadProgram) as caught:
                    function(thing)
                self.assertIs(caught.exception.program, thing)


if __name__ == "__main__":
    unittest.main()
