"""Promises [11.1] to [11.5], [11.7], and of [11.8] what stands in these files."""

import functools
import itertools
import unittest

from everypipe.errors import BadMany
from everypipe.plans import chain, height_paper, high_plan, is_plan, level_plan
from everypipe.refusals import BadLasts, BadLeftOut, BadTask, BadTasks, Ringed
from everypipe.slots import by_slots
from everypipe.tasks import Tasks, need_ring, order_of, task_race
from everypipe.twoplans import paper_rounds, two_paper, two_plan
from helper import Maker, any_objects, changed, is_alike, is_new

ROWS = [("a", ["b"], ["f"], ["g"]), ("b", [], ["h"], ["f"]), ("c", ["a", "b"], [], [])]
RING = Tasks([("a", ["b"], [], []), ("b", ["c"], [], []), ("c", ["b"], [], []), ("d", [], [], [])])
WRONG_MANY = [0, -1, True, False, "1", [1], {}]



def example():
    return Tasks([(name, {"i": ["a"]}.get(name, ["d"] if name in "efgh" else []), [], []) for name in "abcdefghi"])


class TaskMaker(Maker):
    def tasks(self, most=8, is_tree=False, has_files=False):
        names = list("abcdefghijklmnopqrst")[:self.random.randint(0, most)]
        self.random.shuffle(names)
        percent = self.pick([5, 15, 30, 60])
        rows, users, free = [], set(), list("fghij")
        for at, name in enumerate(names):
            needs = [other for other in names[:at] if self.chance(percent) and not (is_tree and other in users)]
            users.update(needs)
            writes = [free.pop() for _ in range(self.random.randint(0, 2)) if free and has_files]
            reads = [file for file in "fghijk" if has_files and self.chance(20) and file not in writes]
            rows.append((name, needs, reads, writes))
        self.random.shuffle(rows)
        return Tasks(rows)


def needed(tasks):
    """All that each one needs, at once or through others."""
    found = {name: set(needs) for name, needs, _, _ in tasks.rows()}
    for _ in found:
        for name in found:
            for need in list(found[name]):
                found[name] |= found[need]
    return found


def least_rounds(tasks, many):
    needs = {name: needs for name, needs, _, _ in tasks.rows()}

    @functools.lru_cache(None)
    def rounds(done):
        able = [name for name in needs if name not in done and all(need in done for need in needs[name])]
        if not able:
            return 0
        return 1 + min(rounds(done | set(pick)) for pick in itertools.combinations(able, min(many, len(able))))
    return rounds(frozenset())


class Made(unittest.TestCase):
    def test_rows(self):
        for given in (ROWS, changed(ROWS)):
            tasks = Tasks(rows=given)
            self.assertTrue(is_alike(tasks.rows(), ROWS))
            self.assertTrue(is_alike(tasks.names(), ["a", "b", "c"]))
            self.assertTrue(is_new(tasks.rows(), tasks.rows(), given))
        rows = changed(changed(ROWS))
        tasks = Tasks(rows)
        rows[0][1].append("c")
        rows.clear()
        tasks.rows()[0][2].clear()
        self.assertTrue(is_alike(tasks.rows(), ROWS))
        self.assertEqual((Tasks([]).rows(), Tasks(()).names()), ([], []))

    def test_equal(self):
        self.assertTrue(Tasks(ROWS) == Tasks(changed(ROWS)))
        self.assertFalse(Tasks(ROWS) != Tasks(ROWS))
        self.assertFalse(Tasks(ROWS) == Tasks(ROWS[1:2]))
        self.assertFalse(Tasks(ROWS) == Tasks([ROWS[1], ROWS[0], ROWS[2]]))
        for thing in any_objects():
            self.assertFalse(Tasks([]) == thing)

    def test_wrong(self):
        for thing in [None, 1, "a", {}, True]:
            with self.assertRaises(BadTask) as caught:
                Tasks(thing)
            self.assertEqual(caught.exception.index, 0)
        right = ("a", [], ["f"], ["g", "h"])
        for row in [None, "b", (), ("b",), ("b", [], []), ("b", [], [], [], []), ("B", [], [], []), (1, [], [], []), ("b", None, [], []),
                    ("b", "a", [], []), ("b", ["a", "a"], [], []), ("b", [1], [], []), ("b", [], ["f", "f"], []), ("b", [], [], ["i", "i"]),
                    ("b", [], ["i"], ["i"]), ("b", [], {}, []), ("b", [], ["F"], []), ("a", [], [], []), ("b", [], [], ["h"]), ("b", [], [], [None])]:
            with self.assertRaises(BadTask) as caught:
                Tasks([right, ("z", ["none"], [], []), row, None])
            self.assertEqual(caught.exception.index, 2, row)
        for row in [("b", ["c"], [], []), ("b", ["b"], [], []), ("b", ["a", "c"], [], [])]:
            with self.assertRaises(BadTask) as caught:
                Tasks([right, row, ("d", ["d"], [], [])])
            self.assertEqual(caught.exception.index, 1)
        self.assertEqual(Tasks([("a", ["b"], ["f"], []), ("b", [], ["f"], ["g"])]).names(), ["a", "b"])

    def test_tasks_are_looked_at(self):
        functions = [order_of, need_ring, task_race, lambda tasks: is_plan(tasks, 0, 0), chain, level_plan, lambda tasks: high_plan(tasks, 0),
                     lambda tasks: height_paper(tasks, 0), two_plan, two_paper, lambda tasks: paper_rounds(tasks, 0),
                     lambda tasks: by_slots(tasks, 0, 0)]
        for function in functions:
            for thing in any_objects():
                with self.assertRaises(BadTasks) as caught:
                    function(thing)
                self.assertIs(caught.exception.tasks, thing)
        for function in functions[2:]:
            with self.assertRaises(Ringed) as caught:
                function(RING)
            self.assertIs(caught.exception.tasks, RING)


class Orders(unittest.TestCase):
    def test_orders(self):
        self.assertEqual(order_of(Tasks(ROWS)), ["b", "a", "c"])
        self.assertEqual(order_of(tasks=Tasks([])), [])
        self.assertEqual(order_of(Tasks([("c", ["d"], [], []), ("a", [], [], []), ("d", [], [], []), ("b", ["c"], [], [])])), ["a", "d", "c", "b"])
        self.assertIsNone(order_of(RING))
        self.assertIsNone(need_ring(tasks=Tasks(ROWS)))
        self.assertIn(need_ring(RING), (["b", "c"], ["c", "b"]))

    def test_just_one(self):
        maker = Maker(1)
        for _ in range(400):
            names = list("abcdef")[:maker.random.randint(0, 6)]
            tasks = Tasks([(name, [other for other in names if other != name and maker.chance(22)], [], []) for name in names])
            needs = {name: needs for name, needs, _, _ in tasks.rows()}
            order, ring = order_of(tasks), need_ring(tasks)
            self.assertEqual(order is None, ring is not None)
            if ring is not None:
                self.assertGreater(len(ring), 1)
                self.assertEqual(len(set(ring)), len(ring))
                for at, name in enumerate(ring):
                    self.assertIn(ring[(at + 1) % len(ring)], needs[name])
                continue
            done = []
            while len(done) < len(names):
                done.append(next(name for name in names if name not in done and all(need in done for need in needs[name])))
            self.assertTrue(is_alike(order, done))

    def test_races(self):
        self.assertIsNone(task_race(Tasks(ROWS)))
        self.assertIsNone(task_race(tasks=Tasks([])))
        rows = [("a", [], ["h", "g", "f"], []), ("b", ["c"], ["g"], ["f"]), ("c", [], [], ["g"])]
        self.assertTrue(is_alike(task_race(Tasks(rows)), ("a", "c", "g")))
        self.assertEqual(task_race(Tasks([("a", ["c"], ["h", "g", "f"], []), *rows[1:]])), ("a", "b", "f"))
        self.assertIsNone(task_race(Tasks([("a", ["b"], ["h", "g", "f"], []), *rows[1:]])))
        self.assertEqual(task_race(Tasks([("c", [], ["f"], ["g"]), ("b", ["c"], ["g"], ["f"])])), ("c", "b", "f"))

    def test_first_race(self):
        maker = TaskMaker(2)
        for _ in range(300):
            tasks = maker.tasks(6, has_files=True)
            found = [(one, other, file) for one, _, reads, _ in tasks.rows() for file in reads for other, _, _, writes in tasks.rows()
                     if file in writes and other not in needed(tasks)[one]]
            self.assertEqual(task_race(tasks), found[0] if found else None)


class Plans(unittest.TestCase):
    def test_is_plan(self):
        tasks = Tasks(ROWS)
        for many, thing, told in [
            (None, [["b"], ["a"], ["c"]], True), (1, (("b",), ("a",), ("c",)), True), (1, [["b"], ["a"], ["c"], []], False), (2, [["b", "a"], ["c"]], False),
            (2, [["b"], ["a"]], False), (2, [["b"], ["a"], ["c"], ["c"]], False), (2, [["b", "b"], ["a"], ["c"]], False), (2, [["a"], ["b"], ["c"]], False),
            (2, [["b"], ["a"], "c"], False), (2, [["b"], ["a"], ["c", "x"]], False), (2, ["b", "a", "c"], False), (2, [["b"], ["a"], [None]], False),
            (2, [["b"], ["a"], [["c"]]], False)]:
            self.assertIs(is_plan(tasks=tasks, many=many, thing=thing), told, thing)
        free = Tasks([(name, [], [], []) for name in "abc"])
        self.assertTrue(is_plan(free, None, [["c", "a", "b"]]))
        self.assertTrue(is_plan(free, 3, [["c", "a", "b"]]))
        self.assertFalse(is_plan(free, 2, [["c", "a", "b"]]))
        self.assertTrue(is_plan(Tasks([]), 1, []))
        self.assertFalse(is_plan(Tasks([]), 1, [[]]))
        for thing in any_objects():
            self.assertIs(is_plan(tasks, None, thing), False)
            self.assertIs(is_plan(tasks, 1, [["b"], ["a"], [thing]]), False)
        for many in WRONG_MANY:
            with self.assertRaises(BadMany) as caught:
                is_plan(tasks, many, None)
            self.assertIs(caught.exception.many, many)

    def test_example(self):
        tasks = example()
        self.assertEqual(len(level_plan(tasks)), 2)
        self.assertEqual(len(two_plan(tasks)), 5)
        self.assertEqual(paper_rounds(tasks, two_paper(tasks)), 5)
        self.assertEqual(paper_rounds(tasks, []), 5)
        self.assertTrue(is_alike(height_paper(tasks, 3), (0, 3)))

    def test_no_task_and_one(self):
        none, one = Tasks([]), Tasks([("a", [], [], [])])
        self.assertEqual([chain(none), level_plan(none), high_plan(none, 1), height_paper(none, 1), two_plan(none), two_paper(none), paper_rounds(none, [])],
                         [[], [], [], (0, 0), [], [], 0])
        self.assertEqual([chain(one), level_plan(one), high_plan(one, 1), height_paper(one, 1), two_plan(one), paper_rounds(one, []), paper_rounds(one, ["a"])],
                         [["a"], [["a"]], [["a"]], (0, 1), [["a"]], 1, 0])

    def test_chains_and_levels(self):
        maker = TaskMaker(3)
        for _ in range(300):
            tasks = maker.tasks(7)
            names, needs = tasks.names(), {name: needs for name, needs, _, _ in tasks.rows()}
            chains = [()]
            for found in chains:
                chains += [(*found, name) for name in names if not found or found[-1] in needs[name]]
            longest = [found for found in chains if len(found) == len(max(chains, key=len))]
            first = min(longest, key=lambda found: [names.index(name) for name in found])
            self.assertTrue(is_alike(chain(tasks=tasks), list(first)))
            plan = level_plan(tasks=tasks)
            self.assertTrue(is_plan(tasks, None, plan))
            self.assertEqual(len(plan), len(first))
            for at, names_there in enumerate(plan):
                self.assertEqual(names_there, sorted(names_there, key=names.index))
                for name in names_there:
                    self.assertTrue(at == 0 or any(need in plan[at - 1] for need in needs[name]))

    def heights(self, tasks):
        needs = {name: needs for name, needs, _, _ in tasks.rows()}

        def height(name):
            return 1 + max([height(other) for other in needs if name in needs[other]], default=0)
        return {name: height(name) for name in needs}

    def test_high_plans_and_papers(self):
        maker = TaskMaker(4)
        for _ in range(300):
            is_tree = maker.chance(50)
            tasks, many = maker.tasks(7, is_tree), maker.random.randint(1, 4)
            names, needs, heights = tasks.names(), {name: needs for name, needs, _, _ in tasks.rows()}, self.heights(tasks)
            plan, done = [], []
            while len(done) < len(names):
                able = [name for name in names if name not in done and all(need in done for need in needs[name])]
                plan.append(sorted(able, key=lambda name: -heights[name])[:many])
                done += plan[-1]
            told = high_plan(tasks=tasks, many=many)
            self.assertTrue(is_alike(told, plan))
            self.assertTrue(is_plan(tasks, many, told))
            papers = [(least, least + -(-sum(height > least for height in heights.values()) // many)) for least in range(max(heights.values(), default=0) + 1)]
            number = max(number for _, number in papers)
            self.assertTrue(is_alike(height_paper(tasks=tasks, many=many), next(paper for paper in papers if paper[1] == number)))
            best = least_rounds(tasks, many)
            self.assertLessEqual(number, best)
            if is_tree:
                self.assertEqual(len(told), number)
            self.assertTrue(len(told) < 2 * best or not names)

    def test_wrong_many(self):
        for many in [None, *WRONG_MANY]:
            for function in (high_plan, height_paper, lambda tasks, many: by_slots(tasks, many, None)):
                with self.assertRaises(BadMany) as caught:
                    function(example(), many)
                self.assertIs(caught.exception.many, many)


class TwoAtOnce(unittest.TestCase):
    def test_against_all_plans(self):
        maker = TaskMaker(5)
        for at in range(400):
            tasks = maker.tasks(9 if at % 4 else 6)
            plan, paper = two_plan(tasks=tasks), two_paper(tasks=tasks)
            self.assertTrue(is_plan(tasks, 2, plan))
            self.assertEqual(len(plan), least_rounds(tasks, 2))
            self.assertEqual(paper_rounds(tasks, paper), len(plan))
            self.assertEqual(len(set(paper)), len(paper))
            self.assertTrue(is_alike(paper_rounds(tasks, tuple(paper)), len(plan)))
            for _ in range(6):
                out = [name for name in tasks.names() if maker.chance(35)]
                self.assertEqual(paper_rounds(tasks, out), self.rounds(tasks, out))
                self.assertLessEqual(paper_rounds(tasks, out), len(plan))

    def rounds(self, tasks, out):
        found = needed(tasks)
        rest, odd = set(found) - set(out), 0
        while rest:
            piece = {rest.pop()}
            grown = True
            while grown:
                more = {b for b in rest if any(a not in found[b] and b not in found[a] for a in piece)}
                piece, rest, grown = piece | more, rest - more, bool(more)
            odd += len(piece) % 2
        return (len(found) - len(out) + odd) // 2

    def test_fourteen_and_more(self):
        for seed in range(20):
            maker = TaskMaker(seed)
            tasks = maker.tasks(20)
            self.assertEqual(paper_rounds(tasks, two_paper(tasks)), len(two_plan(tasks)))

    def test_wrong(self):
        for thing in [None, 1, "a", {}, ["x"], ["a", "a"], [None], [["a"]], ["a", 1], ("b", "b"), [("a",)]]:
            with self.assertRaises(BadLeftOut) as caught:
                paper_rounds(tasks=example(), thing=thing)
            self.assertIs(caught.exception.thing, thing)


class Slots(unittest.TestCase):
    LASTS = dict(zip("abcdefghi", [3, 2, 2, 2, 4, 4, 4, 4, 9]))

    def test_example(self):
        three, four = (by_slots(example(), many, self.LASTS) for many in (3, 4))
        self.assertEqual([max(end for _, _, end in told) for told in (three, four)], [12, 15])
        self.assertTrue(is_alike(three, [("a", 0, 3), ("b", 0, 2), ("c", 0, 2), ("d", 2, 4), ("i", 3, 12), ("e", 4, 8), ("f", 4, 8), ("g", 8, 12), ("h", 8, 12)]))
        self.assertIn(("i", 6, 15), four)

    def test_many_tasks(self):
        maker = TaskMaker(6)
        for _ in range(200):
            tasks, many = maker.tasks(7), maker.random.randint(1, 4)
            lasts = {name: maker.random.randint(1, 4) for name in tasks.names()[::-1]}
            told = by_slots(tasks=tasks, many=many, lasts=lasts)
            needs, names = {name: needs for name, needs, _, _ in tasks.rows()}, tasks.names()
            begins, moment, found = {}, 0, []
            while len(begins) < len(names):
                for name in names:
                    busy = sum(begins[one] + lasts[one] > moment for one in begins)
                    if busy < many and name not in begins and all(need in begins and begins[need] + lasts[need] <= moment for need in needs[name]):
                        begins[name] = moment
                        found.append((name, moment, moment + lasts[name]))
                moment += 1
            self.assertTrue(is_alike(told, found))
            self.assertEqual(by_slots(tasks, len(names) + 1, lasts)[:0], [])
            free = by_slots(tasks, max(1, len(names)), lasts)
            last = max([end for _, _, end in free], default=0)
            self.assertEqual(last, self.longest(needs, lasts))
            self.assertTrue(not names or max(end for _, _, end in told) < 2 * max(last, -(-sum(lasts.values()) // many)))

    def longest(self, needs, lasts):
        def ends(name):
            return lasts[name] + max([ends(need) for need in needs[name]], default=0)
        return max([ends(name) for name in needs], default=0)

    def test_wrong(self):
        right = self.LASTS
        less = {name: right[name] for name in list(right)[1:]}
        for lasts in [None, [], "a", {}, less, {**right, "x": 1}, {**less, "x": 1}, {**right, "a": 0}, {**right, "a": True}, {**right, "b": None},
                      {**right, "i": "9"}, {**less, 1: 1}]:
            with self.assertRaises(BadLasts) as caught:
                by_slots(example(), 3, lasts)
            self.assertIs(caught.exception.lasts, lasts)
        self.assertEqual(by_slots(Tasks([]), 1, {}), [])


if __name__ == "__main__":
    unittest.main()
