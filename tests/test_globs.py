"""Promise [7.7], and of the example [7.8] what it says of globs."""

import unittest

from everypipe.errors import BadGlob, BadLine, BadNames
from everypipe.globs import glob_pattern, is_glob, is_taken, taken_of
from everypipe.patterns import is_match, is_pattern
from helper import Maker, SIGNS, any_objects, changed, is_alike, is_new

ONE, SOME = ("one",), ("some",)
WRONG_GLOBS = [None, 1, "a", {}, ["ab"], [""], ["%"], [("any",)], [("one", 1)], [("of",)], [("of", "")], [("of", "ba")],
               [("of", SIGNS)], [["a"]], [None], [()], ["a", 1], [("of", "a", "b")], [("some", "a")], ["\n"], True]


def takes(glob, name):
    """Whether a glob takes a whole name, told by calls, whatever sign is first."""
    if not glob:
        return name == ""
    item = glob[0]
    if item == SOME:
        return any(takes(glob[1:], name[at:]) for at in range(len(name) + 1))
    is_such = name != "" and (item == ONE or (name[0] == item if isinstance(item, str) else name[0] in item[1]))
    return is_such and takes(glob[1:], name[1:])


class Globs(unittest.TestCase):
    def test_is_glob(self):
        for thing in [[], ["a"], [" ", "~", "/", "*"], [ONE, SOME, ("of", "ab"), ("of", SIGNS[1:])]]:
            self.assertIs(is_glob(thing), True)
            self.assertIs(is_glob(thing=changed(thing)), True)
        for thing in WRONG_GLOBS:
            self.assertIs(is_glob(thing), False, thing)
        for thing in any_objects():
            right = thing in ([], (), ["a"], ("a",), (ONE, SOME))
            self.assertIs(is_glob(thing), right, thing)

    def test_pattern(self):
        any_sign = ("any",)
        often = ("often", any_sign)
        for glob, told in [([], ("empty",)), (["a"], ("of", "a")), ([ONE], any_sign), ([SOME], often), ([("of", "ab")], ("of", "ab")),
                           (["a", ONE, SOME], ("row", ("row", ("of", "a"), any_sign), often))]:
            self.assertTrue(is_alike(glob_pattern(glob), told))
            self.assertTrue(is_alike(glob_pattern(glob=changed(glob)), told))

    def test_example(self):
        self.assertIs(is_taken([SOME, ".", "c"], "m.c"), True)
        self.assertIs(is_taken([SOME, ".", "c"], ".c"), False)

    def test_taken(self):
        for glob, name, told in [
                ([], "", True), ([], "a", False), ([SOME], "", True), ([SOME], "a b", True), ([SOME], ".a", False),
                ([".", SOME], ".a", True), ([".", SOME], ".", True), ([ONE, "a"], ".a", False), ([("of", ".a"), "a"], ".a", False),
                ([("of", ".a"), "a"], "aa", True), ([SOME, "."], ".", False), (["a", SOME], "a.b", True), ([ONE], "", False),
                ([ONE], "ab", False), (["/", SOME], "/a/b", True), ([SOME, SOME], "a", True), (["a"], "b", False)]:
            self.assertIs(is_taken(glob, name), told, (glob, name))
            self.assertIs(is_taken(glob=changed(glob), name=name), told)
            self.assertTrue(is_alike(taken_of(glob, [name]), [name] if told else []))

    def test_taken_of(self):
        names = ["b", ".a", "a", "ab", "a", "B", "~"]
        self.assertTrue(is_alike(taken_of([SOME], names), ["B", "a", "a", "ab", "b", "~"]))
        self.assertEqual(taken_of(glob=["a", SOME], names=tuple(names)), ["a", "a", "ab"])
        self.assertEqual(taken_of([".", SOME], names), [".a"])
        self.assertEqual(taken_of([SOME], []), [])
        self.assertEqual(names, ["b", ".a", "a", "ab", "a", "B", "~"])
        self.assertTrue(is_new(taken_of([SOME], names), names))

    def test_made_up_globs(self):
        maker = Maker(14)
        for _ in range(800):
            glob = maker.glob()
            names = maker.some(lambda: "".join(maker.some(lambda: maker.pick("ab./"), 0, 4)), 0, 6)
            wanted = sorted(name for name in names if takes(glob, name) and (name[:1] != "." or glob[0] == "."))
            self.assertEqual(taken_of(glob, names), wanted)
            self.assertTrue(is_pattern(glob_pattern(glob)))
            for name in names:
                self.assertEqual(is_match(glob_pattern(glob), name), takes(glob, name))
                self.assertEqual(is_taken(glob, name), name in wanted)

    def test_wrong(self):
        for thing in WRONG_GLOBS:
            for call in (lambda: glob_pattern(thing), lambda: is_taken(thing, None), lambda: taken_of(thing, None)):
                with self.assertRaises(BadGlob) as caught:
                    call()
                self.assertIs(caught.exception.glob, thing)
        for name in [None, 1, "%", "x" * 61, ["a"], "\n"]:
            with self.assertRaises(BadLine) as caught:
                is_taken([SOME], name)
            self.assertIs(caught.exception.line, name)
            with self.assertRaises(BadNames) as caught:
                taken_of([SOME], ["a", "a", name, None])
            self.assertEqual(caught.exception.index, 2)
        for names in [None, 1, "a", {}, True]:
            with self.assertRaises(BadNames) as caught:
                taken_of([], names)
            self.assertEqual(caught.exception.index, 0)


if __name__ == "__main__":
    unittest.main()
