"""Promise [5.4], and of the example [5.5] what it says of lists of files."""

import unittest

from everypipe.errors import BadDirectories, BadFiles, BadTree
from everypipe.filelists import directories_of, files_of, tree_of, unlike_at
from everypipe.filetrees import kind_at, lines_at
from helper import Maker, changed, is_alike, is_new
from test_filetrees import TREE, WRONG_PATHS, WRONG_TREES


class Lists(unittest.TestCase):
    def test_example(self):
        self.assertEqual(unlike_at(TREE, {"a": ["x"], "d": {}}), "a")
        self.assertTrue(is_alike(files_of(TREE), [("a", ["x", "y"]), ("d/b", [])]))

    def test_lists(self):
        tree = {"z": ["q"], "a1": ["x"], "a": {"b": [], "a": {"c": {}}}, "b": {}}
        for one in (tree, changed(tree)):
            told = files_of(one)
            self.assertTrue(is_alike(told, [("a/b", []), ("a1", ["x"]), ("z", ["q"])]))
            self.assertTrue(is_new(told, one))
            self.assertTrue(is_alike(directories_of(tree=one), ["a", "a/a", "a/a/c", "b"]))
        self.assertEqual(files_of(tree={}), [])
        self.assertEqual(directories_of({}), [])
        self.assertEqual([path for path, _ in files_of({"a": {"b": []}, "a1": [], "a0": []})], ["a/b", "a0", "a1"])

    def test_wrong_trees(self):
        for tree in WRONG_TREES:
            for function in (files_of, directories_of):
                with self.assertRaises(BadTree) as caught:
                    function(tree)
                self.assertIs(caught.exception.tree, tree)
            with self.assertRaises(BadTree) as caught:
                unlike_at(tree, None)
            self.assertIs(caught.exception.tree, tree)
            with self.assertRaises(BadTree) as caught:
                unlike_at(one={}, other=tree)
            self.assertIs(caught.exception.tree, tree)


class Trees(unittest.TestCase):
    def test_tree_of(self):
        for directories, files, told in [
                ([], [], {}), (["a"], [], {"a": {}}), (["a/b/c"], [], {"a": {"b": {"c": {}}}}),
                (["a/b", "a"], [], {"a": {"b": {}}}), ([], [("a", ["x"])], {"a": ["x"]}),
                ([], [("z/b", []), ("a", []), ("z/a", ["x", "y"])], {"a": [], "z": {"a": ["x", "y"], "b": []}}),
                (["d", "c"], [("d/e", [""])], {"c": {}, "d": {"e": [""]}})]:
            self.assertTrue(is_alike(tree_of(directories, files), told))
            self.assertTrue(is_alike(tree_of(directories=changed(directories), files=changed(files)), told))
            self.assertTrue(is_new(tree_of(directories, files), directories, files))

    def test_it_holds(self):
        maker = Maker(11)
        for _ in range(300):
            tree = maker.tree()
            self.assertEqual(tree_of(directories_of(tree), files_of(tree)), tree)
            told = tree_of([], files_of(tree))
            self.assertEqual(files_of(told), files_of(tree))
            for path in directories_of(told):
                self.assertTrue(any(file.startswith(path + "/") for file, _ in files_of(tree)))

    def test_bad_directories(self):
        for thing in [None, 1, "a", {}, True]:
            with self.assertRaises(BadDirectories) as caught:
                tree_of(thing, None)
            self.assertEqual(caught.exception.index, 0)
        for path in ["", "a", "b/c", *WRONG_PATHS]:
            with self.assertRaises(BadDirectories) as caught:
                tree_of(["a", "b/c", path, None], None)
            self.assertEqual(caught.exception.index, 2)
        self.assertEqual(tree_of(["b/c", "b"], []), {"b": {"c": {}}})

    def test_bad_files(self):
        for thing in [None, 1, "a", {}, True]:
            with self.assertRaises(BadFiles) as caught:
                tree_of(["a"], thing)
            self.assertEqual(caught.exception.index, 0)
        wrong = [None, "ab", (), ("e",), ("e", [], 1), ("", []), ("e", None), ("e", "x"), ("e", ["%"]), ("e", [1]), ("e", {}),
                 ("a", []), ("b", []), ("b/c", []), ("f", []), ("f/g", []), ("f/g/h", []), ("h", []), ("h/i", []), ("h/i/j", [])]
        for thing in [*wrong, *[(path, []) for path in WRONG_PATHS]]:
            with self.assertRaises(BadFiles) as caught:
                tree_of(["a", "b/c"], [("f", []), ("h/i", ["x"]), thing, None])
            self.assertEqual(caught.exception.index, 2, thing)
        self.assertEqual(tree_of(["a"], [("f", []), ("a/f", []), ["h/i", ()]]), {"a": {"f": []}, "f": [], "h": {"i": []}})


class Unlike(unittest.TestCase):
    def test_unlike(self):
        for one, other, told in [
                ({}, {}, None), ({"a": []}, {"a": ()}, None), ({"a": []}, {}, "a"), ({}, {"b": {}}, "b"),
                ({"a": []}, {"a": {}}, "a"), ({"a": {"b": []}}, {"a": {}}, "a/b"), ({"a": {"b": ["x"]}}, {"a": {"b": ["y"]}}, "a/b"),
                ({"a": {"z": []}, "a1": []}, {"a": {}}, "a/z"), ({"b": [], "a": ["x"]}, {"b": ["x"], "a": ["x"]}, "b"),
                ({"a": {"b": []}}, {"a": []}, "a"), ({"c": [], "b": []}, {"c": []}, "b")]:
            self.assertEqual(unlike_at(one, other), told)
            self.assertEqual(unlike_at(other, one), told)
            self.assertEqual(unlike_at(changed(one), other), told)

    def test_just_one(self):
        maker = Maker(12)
        for _ in range(600):
            one, other = maker.tree(2), maker.tree(2)
            told = unlike_at(one, other)
            self.assertEqual(told is None, one == other)
            paths = {path for tree in (one, other) for path in directories_of(tree) + [p for p, _ in files_of(tree)]}
            unlike = [path for path in paths if kind_at(one, path) != kind_at(other, path)
                      or lines_at(one, path) != lines_at(other, path)]
            self.assertEqual(told, min(unlike, default=None))


if __name__ == "__main__":
    unittest.main()
