"""Promises [5.1], [5.2], [5.3], and the example [5.5] as far as it goes."""

import unittest

from everypipe.errors import BadLine, BadPath, BadString, BadTree, BadWay
from everypipe.filetrees import (dir_and_name, is_line, is_path, is_tree, kind_at, lines_at, names_at, opened, resolved,
                                 with_line)
from helper import Maker, SIGNS, any_objects, changed, is_alike, is_new

TREE = {"a": ["x", "y"], "d": {"b": []}}
WRONG_TREES = [None, [], "", {"A": []}, {"": []}, {"abcdefghi": []}, {1: []}, {("a",): []}, {"a": None}, {"a": "x"},
               {"a": ["%"]}, {"a": ["x" * 61]}, {"a": [1]}, {"a": {"b": {"c": 1}}}, {"a": [["x"]]}, {"a b": []}, {"a/b": []}]
WRONG_PATHS = [None, 1, [], "/", "/a", "a/", "a//b", ".", "..", "a/..", "A", "a b", "abcdefghi", "a/abcdefghi", "1", " ", "a\n"]


class Kinds(unittest.TestCase):
    def test_lines(self):
        for thing in ["", "a", " ", SIGNS[:60], SIGNS[-60:], "x" * 60]:
            self.assertIs(is_line(thing), True)
        for thing in ["x" * 61, "%", "a%", "\n", "\t", "\u00e9", "\x7f", "\x1f", None, 1, True, ["a"], ("a",), {}, len]:
            self.assertIs(is_line(thing), False)
        self.assertTrue(is_line(thing="a"))

    def test_trees(self):
        deep = {}
        for _ in range(50):
            deep = {"a": deep}
        for thing in [{}, TREE, {"abcdefgh": {}}, {"a1": ("x",)}, {"a": {"b": {"c": {"d": [""]}}}}, deep]:
            self.assertIs(is_tree(thing), True)
            self.assertIs(is_tree(changed(thing)), True)
        for thing in WRONG_TREES:
            self.assertIs(is_tree(thing), False)
            self.assertIs(is_tree({"a": {"b": thing}}), thing == [])
        self.assertTrue(is_tree(thing={}))

    def test_paths(self):
        for thing in ["", "a", "a/b", "a1/abcdefgh/z9", "a/b/c/d/e/f/g/h"]:
            self.assertIs(is_path(thing), True)
        for thing in WRONG_PATHS:
            self.assertIs(is_path(thing), False)
        self.assertTrue(is_path(thing=""))

    def test_any_object(self):
        for thing in any_objects():
            self.assertIs(is_line(thing), thing in ("", "a", "ab", "a b") and isinstance(thing, str))
            self.assertIs(is_path(thing), isinstance(thing, str) and thing in ("", "a", "ab"))
            self.assertIsInstance(is_tree(thing), bool)
            self.assertFalse(is_tree(thing) and not isinstance(thing, dict))


class Looking(unittest.TestCase):
    def test_at(self):
        for path, kind, names, lines in [
                ("", "directory", ["a", "d"], None), ("a", "file", None, ["x", "y"]), ("d", "directory", ["b"], None),
                ("d/b", "file", None, []), ("c", None, None, None), ("a/b", None, None, None), ("a/b/c", None, None, None),
                ("d/c", None, None, None), ("d/b/c", None, None, None)]:
            for tree in (TREE, changed(TREE)):
                self.assertEqual(kind_at(tree, path), kind)
                self.assertTrue(is_alike(names_at(tree, path), names))
                self.assertTrue(is_alike(lines_at(tree, path), lines))
        self.assertEqual(names_at(tree={"z": [], "a1": [], "a": {}, "b": []}, path=""), ["a", "a1", "b", "z"])
        self.assertEqual(kind_at({}, ""), "directory")
        self.assertEqual(names_at({}, ""), [])
        self.assertTrue(is_new(lines_at(TREE, "a"), TREE))

    def test_wrong(self):
        for function in (kind_at, names_at, lines_at):
            for tree in WRONG_TREES:
                with self.assertRaises(BadTree) as caught:
                    function(tree, "/")
                self.assertIs(caught.exception.tree, tree)
            for path in WRONG_PATHS:
                with self.assertRaises(BadPath) as caught:
                    function(tree=TREE, path=path)
                self.assertIs(caught.exception.path, path)


class Resolved(unittest.TestCase):
    def test_example(self):
        self.assertEqual(resolved("d", "../a"), "a")
        self.assertEqual(resolved("d", "./b/../../..//d"), "d")
        self.assertIsNone(resolved("", "a b"))

    def test_resolved(self):
        for here, text, told in [
                ("", "", ""), ("a/b", "", "a/b"), ("a/b", ".", "a/b"), ("a/b", "..", "a"), ("a/b", "../..", ""),
                ("a/b", "../../..", ""), ("a", "/", ""), ("a", "/b", "b"), ("a", "//b", "b"), ("a", "b/", "a/b"),
                ("a", "b//c", "a/b/c"), ("", "..", ""), ("", "a/../b", "b"), ("a", "/..", ""), ("a", "abcdefgh", "a/abcdefgh"),
                ("a", "abcdefghi", None), ("a", "X", None), ("a", "b/X/..", None), ("a", "...", None), ("a", " ", None),
                ("a", "\n", None), ("a", "1", None), ("a", "b-c", None), ("a", "%", None), ("a", "\u00e9", None)]:
            self.assertEqual(resolved(here=here, text=text), told, (here, text))

    def test_it_holds(self):
        maker = Maker(4)
        pieces = ["", ".", "..", "a", "b", "c1", "X", "a b"]
        for _ in range(1500):
            path = "/".join(maker.some(maker.name, 0, 3))
            here = "/".join(maker.some(maker.name, 0, 3))
            self.assertEqual(resolved("", path), path)
            self.assertEqual(resolved(here, "/" + path), path)
            one = "/".join(maker.some(lambda: maker.pick(pieces[:-2] if maker.chance(80) else pieces), 0, 4))
            other = "/".join(maker.some(lambda: maker.pick(pieces[:-2] if maker.chance(80) else pieces), 0, 4))
            if one != "" and resolved(here, one) is not None and not other.startswith("/"):
                self.assertEqual(resolved(here, one + "/" + other), resolved(resolved(here, one), other))

    def test_wrong(self):
        for path in WRONG_PATHS:
            with self.assertRaises(BadPath) as caught:
                resolved(path, None)
            self.assertIs(caught.exception.path, path)
        for thing in any_objects():
            if not isinstance(thing, str):
                with self.assertRaises(BadString) as caught:
                    resolved("a", thing)
                self.assertIs(caught.exception.text, thing)


class Opened(unittest.TestCase):
    def opens(self, path, way, word, tree=None):
        for old in (TREE, changed(TREE)):
            told = opened(old, path, way)
            self.assertTrue(is_alike(told, (tree or TREE, word)), (path, way, told))
            self.assertTrue(is_new(told, old))

    def test_example(self):
        self.opens("d/c", "add", "", {"a": ["x", "y"], "d": {"b": [], "c": []}})
        self.opens("d/c", "read", "lacks")
        self.opens("d", "add", "directory")
        self.opens("e/c", "cut", "lacks")

    def test_opened(self):
        for way in ("read", "cut", "add"):
            self.opens("", way, "directory")
            self.opens("d", way, "directory")
            self.opens("e/c", way, "lacks")
            self.opens("a/c", way, "lacks")
            self.opens("a/c/d", way, "lacks")
            self.opens("d/b/c", way, "lacks")
        self.opens("a", "read", "")
        self.opens("a", "add", "")
        self.opens("a", "cut", "", {"a": [], "d": {"b": []}})
        self.opens("b", "read", "lacks")
        for way in ("cut", "add"):
            self.opens("b", way, "", {"a": ["x", "y"], "b": [], "d": {"b": []}})
            self.opens("d/a", way, "", {"a": ["x", "y"], "d": {"a": [], "b": []}})
            self.opens("z", way, "", {"a": ["x", "y"], "d": {"b": []}, "z": []})

    def test_told_trees_ascend(self):
        told, word = opened(tree={"z": [], "a": {"c": [], "b": {}}}, path="q", way="add")
        self.assertTrue(is_alike(told, {"a": {"b": {}, "c": []}, "q": [], "z": []}))
        self.assertEqual(word, "")
        self.assertTrue(is_alike(with_line({"z": [], "a": []}, "z", "x"), {"a": [], "z": ["x"]}))

    def test_with_line(self):
        tree = {"a": ["x"], "d": {"b": []}}
        told = with_line(tree=tree, path="a", line="y")
        self.assertTrue(is_alike(told, TREE))
        self.assertTrue(is_new(told, tree))
        self.assertEqual(tree, {"a": ["x"], "d": {"b": []}})
        self.assertTrue(is_alike(with_line(changed(tree), "d/b", ""), {"a": ["x"], "d": {"b": [""]}}))

    def test_dir_and_name(self):
        self.assertTrue(is_alike(dir_and_name("a"), ("", "a")))
        self.assertTrue(is_alike(dir_and_name(path="a/b1/c"), ("a/b1", "c")))
        for path in ["", *WRONG_PATHS]:
            with self.assertRaises(BadPath) as caught:
                dir_and_name(path)
            self.assertIs(caught.exception.path, path)

    def test_wrong(self):
        for tree in WRONG_TREES:
            with self.assertRaises(BadTree) as caught:
                opened(tree, None, None)
            self.assertIs(caught.exception.tree, tree)
            with self.assertRaises(BadTree):
                with_line(tree, None, None)
        for path in WRONG_PATHS:
            with self.assertRaises(BadPath) as caught:
                opened(TREE, path, None)
            self.assertIs(caught.exception.path, path)
        for path in ["", "d", "c", "a/b", *WRONG_PATHS]:
            with self.assertRaises(BadPath) as caught:
                with_line(TREE, path, None)
            self.assertIs(caught.exception.path, path)
        for way in ["Read", "", "lines", None, 1, ["read"], ("cut",)]:
            with self.assertRaises(BadWay) as caught:
                opened(TREE, "a", way)
            self.assertIs(caught.exception.way, way)
        for line in ["%", "x" * 61, "\n", None, 1, ["x"]]:
            with self.assertRaises(BadLine) as caught:
                with_line(TREE, "a", line)
            self.assertIs(caught.exception.line, line)
        self.assertEqual(TREE, {"a": ["x", "y"], "d": {"b": []}})


if __name__ == "__main__":
    unittest.main()
