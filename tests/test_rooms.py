"""Promises [15.4], [15.5], and the example [15.6]."""

import unittest

from everypipe.actors import actor_of
from everypipe.errors import BadHolders, BadMany, BadMost, BadRooms, BadSignals, BadTree
from everypipe.givens import program_of
from everypipe.looking import looked_at
from everypipe.machines import Machine
from everypipe.rings import is_ring
from everypipe.rooms import ends_by, is_straight, least_rooms, rooms_paper
from helper import any_objects, changed, is_alike, is_new
from made_machines import MachineMaker, own_parts, raised, telling

P, Q, R = (0,), (1,), (2,)
ONE = {(): 1}
lead = lambda number, side: ("pipe", (number,), side)
given = lambda *piece: actor_of(program_of(piece))


def tee_sort_paste():
    """A tee to pipes 0 and 1, a sort from 0 to 2, a paste of 2 and 1."""
    return [(given("tee", 3), {0: ("lines", ["b", "c", "a"]), 1: lead(0, "put"), 3: lead(1, "put")}), (given("sort"), {0: lead(0, "take"), 1: lead(2, "put")}),
            (given("paste", 3), {0: lead(2, "take"), 3: lead(1, "take"), 1: ("file", "out", "add")})]


def racing():
    return [(telling([("put", 3, line)]), {3: ("file", "f", "add")}) for line in "ab"]


class Ends(unittest.TestCase):
    def test_words(self):
        holders = tee_sort_paste()
        for rooms, told in [({(): 3}, "ends"), ({(): 1, (1,): 3}, "ends"), ({(): 8, (1,): 2}, "stands"), ({(): 1}, "stands")]:
            self.assertEqual(ends_by({}, holders, rooms, [], 500), told)
            self.assertEqual(ends_by(tree={}, holders=changed(holders), rooms=rooms, signals=(), many=500), told)
        self.assertEqual(ends_by({}, holders, {(): 3}, [], 5), "many")
        self.assertEqual(ends_by({}, racing(), ONE, [], 50), "other")
        self.assertEqual(ends_by({}, holders, {(): 3}, [(Q, 2, "kill")], 500), "ends")
        self.assertEqual(ends_by({}, [(telling([]), {})], ONE, [], 1), "ends")
        self.assertEqual(ends_by({}, [(telling([]), {})], ONE, [], 0), "many")

    def test_by_what_is_told(self):
        maker = MachineMaker(91)
        seen = set()
        for _ in range(300):
            made, many = maker.any(), maker.pick([60, 60, 6])
            told = looked_at(Machine(*made), many)
            word = "many" if told == ("many",) else "other" if told[0] != ("one",) else "stands" if told[3] else "ends"
            self.assertEqual(ends_by(*made, many), word)
            seen.add(word)
        self.assertEqual(len(seen), 4)


class LeastRooms(unittest.TestCase):
    def test_example(self):
        told = least_rooms({}, tee_sort_paste(), [], 8, 500)
        self.assertTrue(is_alike(told, {(): 8, (0,): 1, (1,): 3, (2,): 1}))
        self.assertTrue(is_alike(rooms_paper({}, tee_sort_paste(), told, [], 500), {(1,): ("stands", [P, R, Q])}))

    def test_most(self):
        holders = tee_sort_paste()
        for most in (1, 2):
            self.assertIsNone(least_rooms({}, holders, [], most, 500))
        self.assertTrue(is_alike(least_rooms(tree={}, holders=holders, signals=[], most=3, many=500), {(): 3, (0,): 1, (1,): 3, (2,): 1}))
        self.assertIsNone(least_rooms({}, holders, [], 8, 10))
        self.assertIsNone(least_rooms({}, racing(), [], 8, 99))
        self.assertTrue(is_alike(least_rooms({}, [(telling([]), {})], [], 5, 99), {(): 5}))

    def test_pipes_that_come_to_be(self):
        rows = [(telling([("put", 1, "a"), ("put", 1, "b"), ("put", 2, "c")]), {1: ("new", 0, "put"), 2: ("new", 1, "put")}),
                (telling([("take", 2), ("take", 1)]), {1: ("new", 0, "take"), 2: ("new", 1, "take")})]
        holders = [(telling([("start", rows, {}), ("wait", 0), ("wait", 1)]), {})]
        self.assertTrue(is_alike(least_rooms({}, holders, [], 4, 99), {(): 4, (0, 0): 2, (0, 1): 1}))
        self.assertEqual(rooms_paper({}, holders, {(): 1, (0, 0): 2, (0, 1): 1}, [], 99), {(0, 0): ("stands", [(0, 0), (0, 1)])})

    def test_papers(self):
        holders = tee_sort_paste()
        told = rooms_paper(tree={}, holders=holders, rooms={(): 7, (0,): 2, (1,): 4, (2,): 1}, signals=[], many=500)
        self.assertTrue(is_alike(told, {(0,): ("ends", None), (1,): ("ends", None)}))
        rooms = {(2,): 1, (1,): 3, (0,): 2, (): 7}
        self.assertEqual(list(rooms_paper({}, holders, rooms, [], 500)), [(0,), (1,)])
        self.assertEqual(rooms, {(2,): 1, (1,): 3, (0,): 2, (): 7})
        for rooms in [{(): 1}, {(): 3}, {(): 3, (0,): 1, (1,): 3}, {(): 1, (0,): 1, (1,): 2, (2,): 1}, {(): 3, (0,): 1, (1,): 3, (2,): 1, (3,): 1}]:
            self.assertIs(raised(BadRooms, rooms_paper, {}, holders, rooms, [], 500).rooms, rooms)
        rooms = {(): 3, (0,): 1, (1,): 3, (2,): 1}
        self.assertIs(raised(BadRooms, rooms_paper, {}, holders, rooms, [], 9).rooms, rooms)
        self.assertEqual(rooms_paper({}, [(telling([]), {})], {(): 5}, [], 9), {})

    def test_with_one_less_it_does_not_end(self):
        maker = MachineMaker(92)
        least, stood = 0, 0
        for _ in range(150):
            tree, holders, _, signals = maker.net()
            most = maker.random.randint(1, 4)
            told = least_rooms(tree, holders, signals, most, 60)
            if ends_by(tree, holders, {(): most}, signals, 60) != "ends":
                self.assertIsNone(told)
                continue
            self.assertEqual(ends_by(tree, holders, told, signals, 60), "ends")
            self.assertEqual(list(told), sorted(told))
            self.assertEqual(told[()], most)
            self.assertEqual(sorted(told), [(), *looked_at(Machine(tree, holders, {(): most}, signals), 60)[1][0]])
            self.assertTrue(all(1 <= room <= most for room in told.values()))
            paper = rooms_paper(tree, holders, told, signals, 60)
            self.assertEqual(list(paper), [pipe for pipe in told if pipe != () and told[pipe] > 1])
            for pipe, (word, ring) in paper.items():
                less = {**told, pipe: told[pipe] - 1}
                self.assertEqual(ends_by(tree, holders, less, signals, 60), word)
                self.assertNotEqual(word, "ends")
                self.assertEqual(ring is None, word != "stands")
                if ring is not None:
                    machine = Machine(tree, holders, less, signals)
                    machine.run(maker.schedule(), 500)
                    self.assertTrue(is_ring(machine, ring))
                    stood += 1
                least += 1
            self.assertTrue(is_alike(least_rooms(tree, holders, signals, most, 60), told))
            self.assertTrue(is_new(told, least_rooms(tree, holders, signals, most, 60)))
        self.assertGreater(least, 5)
        self.assertGreater(stood, 3)

    def test_greater_rooms_end_alike(self):
        maker = MachineMaker(93)
        for _ in range(120):
            tree, holders, rooms, signals = maker.net()
            if ends_by(tree, holders, rooms, signals, 60) == "ends":
                for _ in range(3):
                    greater = {(): rooms[()] + maker.pick([0, 1, 3])}
                    greater.update({(p,): max(rooms.get((p,), rooms[()]), maker.pick([1, 2, 4])) for p in range(3)})
                    self.assertIn(ends_by(tree, holders, greater, signals, 60), ("ends", "other"))

    def test_wrong(self):
        holders = tee_sort_paste()
        for function in (lambda *passed: ends_by(*passed), lambda *passed: rooms_paper(*passed)):
            for thing in any_objects():
                if not isinstance(thing, dict) or thing == {"a": None} or any(not isinstance(name, str) for name in thing):
                    self.assertIs(raised(BadTree, function, thing, None, None, None, None).tree, thing)
            self.assertEqual(raised(BadHolders, function, {}, holders[:1] + [None], None, None, None).index, 1)
            for rooms in [None, {}, {(): 0}, {(0,): 1}, []]:
                self.assertIs(raised(BadRooms, function, {}, holders, rooms, None, None).rooms, rooms)
            self.assertEqual(raised(BadSignals, function, {}, holders, ONE, [((0,), 1, "int"), 1], None).index, 1)
            for many in [None, -1, True, "9"]:
                self.assertIs(raised(BadMany, function, {}, holders, ONE, [], many).many, many)
        self.assertEqual(raised(BadTree, least_rooms, None, None, None, None, None).tree, None)
        self.assertEqual(raised(BadHolders, least_rooms, {}, [], None, None, None).index, 0)
        self.assertEqual(raised(BadSignals, least_rooms, {}, holders, None, None, None).index, 0)
        for most in [None, 0, -1, 9, True, "3", [1]]:
            self.assertIs(raised(BadMost, least_rooms, {}, holders, [], most, None).most, most)
        for many in [None, -1, True, "9"]:
            self.assertIs(raised(BadMany, least_rooms, {}, holders, [], 3, many).many, many)


class Straight(unittest.TestCase):
    def test_tables(self):
        idle = telling([])
        for tables, told in [
            ([{}], True), ([{5: ("lines", [])}], True), ([{0: lead(0, "take")}], False), ([{0: lead(0, "put")}], False), ([{1: lead(0, "put")}, {0: lead(0, "take")}], True),
            ([{1: lead(0, "put"), 2: lead(0, "put")}, {0: lead(0, "take"), 7: lead(0, "take")}], True), ([{}, {}], False), ([{1: lead(0, "put")}, {}], False),
            ([{1: lead(0, "put"), 0: lead(0, "take")}, {0: lead(0, "take")}], False), ([{1: lead(1, "put")}, {0: lead(1, "take")}], False),
            ([{0: lead(0, "take")}, {1: lead(0, "put")}], False), ([{1: lead(0, "put")}, {0: lead(0, "take"), 1: lead(1, "put")}], False),
            ([{1: lead(0, "put")}, {0: lead(0, "take"), 1: lead(1, "put"), 3: ("file", "f", "add")}, {0: lead(1, "take")}], True),
            ([{1: lead(0, "put")}, {0: lead(0, "take"), 1: lead(1, "put")}, {0: lead(1, "take"), 1: lead(2, "put")}], False),
        ]:
            self.assertIs(is_straight({}, [(idle, table) for table in tables], ONE), told, tables)

    def test_actors(self):
        child = telling([])
        for wishes, told in [([("look", "f"), ("put", 4, "a"), ("close", 4)], True), ([("start", [(child, {})], {})], False), ([("start", [(child, {})], {}), ("wait", 0)], False),
                             ([("wait", 0)], True), ([("become", child, {})], True), ([("start", [(child, {})], {}), ("ask", 0)], False),
                             ([("start", [(child, {})], {}), ("signal", 0, "int")], False), ([("start", [], {})], True), ([("start", [], {1: ("new", 0, "put"), 2: ("new", 0, "take")})], False)]:
            self.assertIs(is_straight(tree={}, holders=((telling(wishes), {}),), rooms=ONE), told, wishes)

    def test_ends_within_two_thousand_deeds(self):
        looks = lambda many: [(telling([("look", "f")] * many), {})]
        self.assertIs(is_straight({}, looks(1999), ONE), True)
        self.assertIs(is_straight({}, looks(2000), ONE), False)
        self.assertIs(is_straight({}, [(telling([], ("look", "f")), {})], ONE), False)

    def test_it_never_stands_still(self):
        maker = MachineMaker(94)
        straight = 0
        for _ in range(300):
            tree, holders, _, _ = maker.straight()
            if not is_straight(tree, holders, {(): 1}):
                continue
            straight += 1
            lasts = []
            files = [lead[1:] for _, table in holders for lead in table.values() if lead[0] == "file"]
            for _ in range(4):
                machine = Machine(tree, holders, {(): maker.pick([1, 2, 5]), (1,): maker.pick([1, 3])})
                machine.run(maker.schedule(), 3000)
                self.assertTrue(machine.is_whole())
                self.assertEqual(machine.left(), [])
                lasts.append(own_parts(machine.deeds())[(len(holders) - 1,)])
            if len({path for path, _ in files}) == len(files):
                self.assertTrue(all(last == lasts[0] for last in lasts))
        self.assertGreater(straight, 150)

    def test_wrong(self):
        for thing in [None, 1, [], {"A": []}, {"a": None}]:
            self.assertIs(raised(BadTree, is_straight, thing, None, None).tree, thing)
        for holders, index in [(None, 0), ([], 0), ([(telling([]), {}), 1], 1), ([(telling([]), {0: ("file", "f", "read")})], 0)]:
            self.assertEqual(raised(BadHolders, is_straight, {}, holders, None).index, index)
        for rooms in [None, {}, {(): 0}, {(): True}]:
            self.assertIs(raised(BadRooms, is_straight, {}, [(telling([]), {})], rooms).rooms, rooms)


if __name__ == "__main__":
    unittest.main()
