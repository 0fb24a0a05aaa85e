"""Promise [11.6]."""

import unittest

from everypipe.builds import built, why_made
from everypipe.errors import BadTree
from everypipe.filetrees import is_tree
from everypipe.refusals import BadMade, BadRecords, BadTasks, Ringed
from everypipe.tasks import Tasks, order_of, task_race
from helper import any_objects, is_alike, is_new
from test_tasks import RING, TaskMaker

TASKS = Tasks([("b", ["a"], ["x", "s"], ["y", "z"]), ("a", [], ["s", "r"], ["x"]), ("c", [], [], ["w"])])


def make(name, files):
    writes = {row[0]: row[3] for row in TASKS.rows()}[name]
    return {file: [name] + [line for lines in files.values() for line in lines or ["-"]] for file in writes}


class Built(unittest.TestCase):
    def test_all_at_first(self):
        handed = []

        def maker(name, files):
            handed.append((name, {file: lines and list(lines) for file, lines in files.items()}))
            told = make(name, files)
            for lines in files.values():
                if lines is not None:
                    lines.append("changed")
            files.clear()
            return told
        tree = {"s": ["1"], "r": {"d": []}, "w": {"e": {}}, "o": []}
        told = built(TASKS, tree, {}, maker)
        self.assertTrue(is_alike(handed, [("a", {"r": None, "s": ["1"]}), ("b", {"s": ["1"], "x": ["a", "-", "1"]}), ("c", {})]))
        self.assertTrue(is_alike(told[0], {"o": [], "r": {"d": []}, "s": ["1"], "w": ["c"], "x": ["a", "-", "1"],
                                          "y": ["b", "1", "a", "-", "1"], "z": ["b", "1", "a", "-", "1"]}))
        self.assertTrue(is_alike(told[1], {
            "a": ({"r": None, "s": ["1"]}, {"x": ["a", "-", "1"]}),
            "b": ({"s": ["1"], "x": ["a", "-", "1"]}, {"y": ["b", "1", "a", "-", "1"], "z": ["b", "1", "a", "-", "1"]}),
            "c": ({}, {"w": ["c"]})}))
        self.assertEqual(told[2], ["a", "b", "c"])
        self.assertTrue(is_alike(tree, {"s": ["1"], "r": {"d": []}, "w": {"e": {}}, "o": []}))
        self.assertTrue(is_new(told, tree))
        again = built(TASKS, told[0], told[1], None)
        self.assertTrue(is_alike(again, (told[0], told[1], [])))
        self.assertTrue(is_new(again, told))

    def test_copies_are_kept(self):
        lines = ["l"]
        tasks = Tasks([("a", [], [], ["f", "g"])])
        told = built(tasks=tasks, tree={}, records={}, make=lambda name, files: {"g": lines, "f": lines})
        lines.append("m")
        self.assertTrue(is_alike(told, ({"f": ["l"], "g": ["l"]}, {"a": ({}, {"f": ["l"], "g": ["l"]})}, ["a"])))
        self.assertTrue(is_new(told, lines))

    def test_what_is_not_up_to_date(self):
        tree, records, _ = built(TASKS, {"s": ["1"]}, {}, make)
        for change, made, why in [
            ({"s": ["2"]}, ["a", "b"], [("b", "read", "s"), ("a", "read", "s")]), ({"r": []}, ["a"], [("a", "read", "r")]),
            ({"x": ["old"]}, ["a"], [("b", "read", "x"), ("a", "written", "x")]), ({"y": []}, ["b"], [("b", "written", "y")]),
            ({"z": {}, "y": []}, ["b"], [("b", "written", "y")]), ({"w": {}}, ["c"], [("c", "written", "w")]), ({"s": {}}, ["a", "b"], None), ({}, [], []),
        ]:
            other = {**tree, **change}
            if why is not None:
                self.assertTrue(is_alike(why_made(tasks=TASKS, tree=other, records=records), why), change)
            told = built(TASKS, other, records, lambda name, files: make(name, files) if change != {"r": []} else {"x": tree["x"]})
            self.assertEqual(told[2], made, change)
        less = {name: lines for name, lines in tree.items() if name != "s"}
        self.assertEqual(why_made(TASKS, less, records)[0], ("b", "read", "s"))
        self.assertTrue(is_alike(why_made(TASKS, tree, {name: record for name, record in records.items() if name != "a"}), [("a", "new", None)]))
        self.assertTrue(is_alike(why_made(TASKS, tree, {}), [("b", "new", None), ("a", "new", None), ("c", "new", None)]))
        self.assertEqual(why_made(Tasks([]), {}, {}), [])
        self.assertEqual(built(Tasks([]), {"f": []}, {}, None), ({"f": []}, {}, []))

    def test_it_holds(self):
        maker = TaskMaker(9)
        done = 0
        for _ in range(400):
            tasks = maker.tasks(6, has_files=True)
            if task_race(tasks) is not None:
                continue
            done += 1
            writes = {row[0]: row[3] for row in tasks.rows()}
            reads = {row[0]: row[2] for row in tasks.rows()}
            calls = []

            def maker_of(name, files, most=maker.pick([1, 9])):
                calls.append(name)
                return {file: [line for other in sorted(files) for line in files[other] or ["-"]][:most] for file in writes[name]}
            tree, records = {file: maker.some(maker.line, 0, 2) for file in "fghijk" if maker.chance(60)}, {}
            for _ in range(3):
                calls.clear()
                why = [name for name, _, _ in why_made(tasks, tree, records)]
                whole, _, all_made = built(tasks, tree, {}, maker_of)
                self.assertEqual(all_made, order_of(tasks))
                self.assertEqual(self.made_in_any_order(maker, tasks, tree, maker_of), whole)
                calls.clear()
                new, kept, made = built(tasks, tree, records, maker_of)
                self.assertEqual(calls, made)
                self.assertEqual(new, whole)
                self.assertTrue(set(made) <= set(why) | {name for name in made if any(file in reads[name] for other in made for file in writes[other])})
                self.assertEqual(list(kept), sorted(kept))
                calls.clear()
                self.assertTrue(is_alike(built(tasks, new, kept, maker_of), (new, kept, [])))
                self.assertEqual((calls, why_made(tasks, new, kept)), ([], []))
                records = kept
                tree = {**new, **{file: maker.some(maker.line, 0, 2) for file in "fghijk" if maker.chance(25)}}
                for file in "fghijk":
                    if maker.chance(10):
                        tree.pop(file, None)
        self.assertGreater(done, 100)

    def made_in_any_order(self, maker, tasks, tree, make_one):
        """The tree that comes of all tasks, each made behind what it needs, else in any order."""
        tree, rest = dict(tree), tasks.rows()
        while rest:
            name, _, reads, _ = row = maker.pick([row for row in rest if not any(other[0] in row[1] for other in rest)])
            rest.remove(row)
            tree.update(make_one(name, {file: tree.get(file) for file in sorted(reads)}))
        return tree

    def test_wrong_made(self):
        tasks = Tasks([("a", [], ["f"], ["g"]), ("b", ["a"], [], [])])
        for told in [None, [], "a", {}, {"f": []}, {"g": None}, {"g": "a"}, {"g": ["a\n"]}, {"g": [], "h": []}, {"g": [1]}, {1: []}]:
            with self.assertRaises(BadMade) as caught:
                built(tasks, {}, {}, lambda name, files: told)
            self.assertEqual(caught.exception.name, "a")
        with self.assertRaises(BadMade) as caught:
            built(tasks, {}, {}, lambda name, files: {"g": ()})
        self.assertEqual(caught.exception.name, "b")

    def test_wrong(self):
        functions = [why_made, lambda tasks, tree, records: built(tasks, tree, records, None)]
        for function in functions:
            for thing in any_objects():
                with self.assertRaises(BadTasks) as caught:
                    function(thing, None, None)
                self.assertIs(caught.exception.tasks, thing)
                if not is_tree(thing):
                    with self.assertRaises(BadTree) as caught:
                        function(TASKS, thing, None)
                    self.assertIs(caught.exception.tree, thing)
            with self.assertRaises(Ringed) as caught:
                function(RING, None, None)
            self.assertIs(caught.exception.tasks, RING)
            right = built(TASKS, {}, {}, make)[1]["a"]
            for records in [None, [], "a", {"x": right}, {1: right}, {"b": right}, {"a": None}, {"a": right[0]}, {"a": (*right, 1)}, {"a": ({}, {"x": []})},
                            {"a": ({"r": 1, "s": []}, {"x": []})}, {"a": ({"r": [], "s": []}, {"x": None})}, {"a": ({"r": [], "s": []}, {})},
                            {"a": ({"r": [], "s": [], "t": []}, {"x": []})}, {"a": ({"r": [], "s": []}, {"x": [], "y": []})}, {"a": right, "d": right}]:
                with self.assertRaises(BadRecords) as caught:
                    function(TASKS, {}, records)
                self.assertIs(caught.exception.records, records)
        self.assertEqual(why_made(TASKS, {}, {"a": [{"r": None, "s": None}, {"x": ()}]})[1], ("a", "written", "x"))


if __name__ == "__main__":
    unittest.main()
