"""Promise [4.4]: fields of chunks."""

import unittest

from everypipe.errors import BadChunks
from everypipe.fields import parted
from helper import Maker, any_objects, changed, is_alike, is_new


def sign_by_sign(chunks):
    """The same fields, told sign by sign."""
    marks = []
    for text, way in chunks:
        if way == "held":
            marks.append(("", True))
        for sign in text:
            marks.append(None if way == "open" and sign in " \n" else (sign, way == "held"))
    fields, field = [], []
    for mark in [*marks, None]:
        if mark is not None:
            field.append(mark)
            continue
        if field:
            pairs = []
            for sign, is_held in field:
                if sign and pairs and pairs[-1][1] == is_held:
                    pairs[-1] = (pairs[-1][0] + sign, is_held)
                elif sign:
                    pairs.append((sign, is_held))
            fields.append(pairs or [("", True)])
        field = []
    return fields


class Fields(unittest.TestCase):
    def fields(self, chunks, *fields):
        self.assertTrue(is_alike(parted(chunks), list(fields)), parted(chunks))
        self.assertTrue(is_alike(parted(changed(chunks)), list(fields)))

    def test_fields(self):
        self.fields([])
        self.fields([("", "open")])
        self.fields([(" \n ", "open")])
        self.fields([("", "plain")])
        self.fields([("", "held")], [("", True)])
        self.fields([("a b", "open")], [("a", False)], [("b", False)])
        self.fields([(" a\n\nb ", "open")], [("a", False)], [("b", False)])
        self.fields([("a b", "held")], [("a b", True)])
        self.fields([("a b\n", "plain")], [("a b\n", False)])
        self.fields([("a", "open"), ("b", "plain"), ("c", "held"), ("d", "held")], [("ab", False), ("cd", True)])
        self.fields([("a ", "open"), ("b", "plain")], [("a", False)], [("b", False)])
        self.fields([("a b", "open"), ("a b", "held")], [("a", False)], [("b", False), ("a b", True)])
        self.fields([("", "held"), (" ", "open"), ("", "held")], [("", True)], [("", True)])
        self.fields([("", "held"), ("", "open")], [("", True)])
        self.fields([(" ", "open"), ("", "held"), (" ", "open")], [("", True)])
        self.fields([("", "held"), ("a", "plain")], [("a", False)])
        self.fields([("a", "plain"), ("", "held"), ("b", "open")], [("ab", False)])
        self.fields([("a", "held"), ("", "open"), ("b", "held")], [("ab", True)])
        self.fields([(" ", "held")], [(" ", True)])
        self.fields([("\n", "plain"), (" ", "open")], [("\n", False)])

    def test_made_up_chunks(self):
        maker = Maker(2)
        for _ in range(1500):
            chunks = maker.some(lambda: (maker.pick(["", "", " ", "a", "b c", " a", "\n"]), maker.pick(["held", "plain", "open"])), 0, 5)
            before = changed(changed(chunks))
            told = parted(chunks=chunks)
            self.assertTrue(is_alike(told, sign_by_sign(chunks)), chunks)
            self.assertTrue(is_alike(chunks, before))
            self.assertTrue(is_new(told, chunks))

    def test_wrong(self):
        for thing in any_objects():
            if thing in ([], ()):
                continue
            with self.assertRaises(BadChunks) as caught:
                parted(thing)
            self.assertEqual(caught.exception.index, 0)
            if isinstance(thing, (list, tuple)) and len(thing) == 2:
                continue
            with self.assertRaises(BadChunks) as caught:
                parted([("a", "held"), ["b", "open"], thing, None])
            self.assertEqual(caught.exception.index, 2)
        for chunk in [("a", "Held"), ("a", None), ("a", ["held"]), (1, "held"), (None, "open"), ("a",), ("a", "held", 1),
                      "ab", ("a", True), (["a"], "plain")]:
            with self.assertRaises(BadChunks) as caught:
                parted([("a", "plain"), chunk])
            self.assertEqual(caught.exception.index, 1)


if __name__ == "__main__":
    unittest.main()
