"""Promises [15.1], [15.2], [15.3], and of [9.6] what is said of whole machines."""

import unittest

from everypipe.looking import looked_at
from everypipe.machines import Machine
from everypipe.refusals import BadMachine, BadProcess
from everypipe.rings import holders_of, is_ring, ring_of, ways_to_ring
from helper import any_objects, is_alike, is_new
from made_machines import MachineMaker, all_ends, raised, telling
from test_machines import RandomMaker

P, Q, R, S = (0,), (1,), (2,), (3,)
PIPE, LATTER = (0,), (1,)
ONE = {(): 1}
lead = lambda number, side: ("pipe", (number,), side)


def crossed():
    """Two that each wait to take from the other one, and one that puts without end."""
    return Machine({}, [(telling([("take", 0)]), {0: lead(0, "take"), 1: lead(1, "put")}), (telling([("take", 0)]), {0: lead(1, "take"), 1: lead(0, "put")}),
                        (telling([("look", "f")] * 3), {})], ONE)


def parent():
    """One that waits for its child, which waits for itself."""
    child = telling([("take", 0)])
    return Machine({}, [(telling([("start", [(telling([]), {}), (child, {0: ("new", 0, "take"), 1: ("new", 0, "put")})], {}), ("wait", 1)]), {})], ONE)


def whole(machine):
    machine.run([], 200)
    return machine


class Holders(unittest.TestCase):
    def test_takes_and_puts(self):
        machine = Machine({}, [(telling([("take", 0)]), {0: lead(0, "take")}), (telling([("take", 0)]), {0: lead(1, "take"), 1: lead(0, "put")}),
                               (telling([("put", 1, "a")] * 2), {1: lead(1, "put"), 2: lead(0, "put")}), (telling([]), {2: lead(0, "put")})], ONE)
        self.assertTrue(is_alike(holders_of(machine, P), [Q, R, S]))
        self.assertTrue(is_alike(holders_of(machine=machine, process=[1]), [R]))
        self.assertTrue(is_alike(holders_of(machine, R), []))
        machine.step(S)
        self.assertEqual((holders_of(machine, P), holders_of(machine, S)), ([Q, R], []))
        machine.step(R)
        self.assertTrue(is_alike(holders_of(machine, R), [Q]))
        self.assertEqual(holders_of(machine, Q), [])

    def test_itself(self):
        machine = Machine({}, [(telling([("put", 1, "a")] * 2), {1: lead(0, "put"), 0: lead(0, "take")})], ONE)
        self.assertEqual(holders_of(machine, P), [])
        machine.step(P)
        self.assertEqual(holders_of(machine, P), [P])

    def test_children(self):
        machine = whole(parent())
        self.assertEqual(holders_of(machine, P), [(0, 1)])
        self.assertEqual(holders_of(machine, (0, 1)), [(0, 1)])
        self.assertEqual(holders_of(machine, (0, 0)), [])

    def test_wrong(self):
        for function in (holders_of, lambda machine, thing: ring_of(machine), lambda machine, thing: is_ring(machine, thing), lambda machine, thing: ways_to_ring(machine)):
            for thing in any_objects():
                self.assertIs(raised(BadMachine, function, thing, None).machine, thing)
        for thing in any_objects() + [Q, (0, 0), (True,), (0, True), "0"]:
            self.assertIs(raised(BadProcess, holders_of, crossed_alone(), thing).process, thing)

    def test_of_many(self):
        for maker in (MachineMaker(81), RandomMaker(82)):
            for _ in range(150):
                machine = maker.machine()
                machine.run(maker.schedule(), 40)
                twin = machine.copy()
                for name in machine.processes():
                    wait = machine.waiting(name)
                    told = holders_of(machine, name)
                    if wait is None:
                        self.assertEqual(told, [])
                    elif wait[0] == "wait":
                        self.assertEqual(told, [wait[1]])
                    else:
                        side = "put" if wait[0] == "take" else "take"
                        self.assertEqual(told, [other for other in machine.left() if ("pipe", wait[1], side) in machine.table(other).values()])
                        self.assertNotEqual(told, [])
                self.assertTrue(machine == twin)


def crossed_alone():
    return Machine({}, [(telling([]), {})], ONE)


class Rings(unittest.TestCase):
    def test_two(self):
        machine = crossed()
        self.assertIsNone(ring_of(machine))
        self.assertEqual(ways_to_ring(machine), {})
        # Whether it stands still is not asked of a ring.
        self.assertIs(is_ring(machine, [P, Q]), True)
        whole(machine)
        self.assertTrue(is_alike(ring_of(machine), [P, Q]))
        self.assertTrue(is_alike(ways_to_ring(machine), {P: [P, Q, P], Q: [Q, P, Q]}))
        self.assertTrue(is_new(ways_to_ring(machine), ring_of(machine)))
        for thing, told in [([P, Q], True), ((P, Q), True), ([[0], [1]], True), ([Q, P], False), ([P], False), ([P, Q, P, Q], False), ([], False), ([R], False), ([P, Q, R], False),
                            ([P, (True,)], False), ([P, None], False), ([(9,)], False)]:
            self.assertIs(is_ring(machine=machine, thing=thing), told, thing)
        for thing in any_objects():
            self.assertIs(is_ring(machine, thing), False)

    def test_one_that_waits_for_itself(self):
        machine = whole(parent())
        self.assertTrue(is_alike(ring_of(machine), [(0, 1)]))
        self.assertTrue(is_alike(ways_to_ring(machine), {P: [P, (0, 1), (0, 1)], (0, 1): [(0, 1), (0, 1)]}))
        self.assertIs(is_ring(machine, [P]), False)
        self.assertIs(is_ring(machine, [(0, 1)]), True)

    def test_the_least_one_first(self):
        # (0,) waits for (2,), (2,) for (3,), (3,) for (1,), (1,) for (2,).
        takes = {P: 0, R: 1, S: 2, Q: 3}
        puts = {R: [0, 3], S: [1], Q: [2], P: []}
        holders = [(telling([("take", 9)]), {9: lead(takes[name], "take"), **{n: lead(n, "put") for n in puts[name]}}) for name in (P, Q, R, S)]
        machine = whole(Machine({}, holders, ONE))
        self.assertEqual(ring_of(machine), [Q, R, S])
        self.assertEqual(ways_to_ring(machine), {P: [P, R, S, Q, R], Q: [Q, R, S, Q], R: [R, S, Q, R], S: [S, Q, R, S]})
        self.assertEqual([is_ring(machine, thing) for thing in ([Q, R, S], [R, S, Q], [Q, S, R], [P, R, S, Q])], [True, False, False, False])

    def test_the_least_holder_leads(self):
        holders = [(telling([("take", 0)]), {0: lead(0, "take")}), (telling([("take", 0)]), {0: lead(1, "take"), 1: lead(0, "put"), 2: lead(1, "put")}),
                   (telling([("take", 0)]), {0: lead(2, "take"), 1: lead(0, "put"), 2: lead(2, "put")})]
        machine = whole(Machine({}, holders, ONE))
        self.assertEqual(ways_to_ring(machine), {P: [P, Q, Q], Q: [Q, Q], R: [R, R]})
        self.assertIs(is_ring(machine, [R]), True)

    def test_one_of_both(self):
        rings = 0
        for maker in (MachineMaker(83), RandomMaker(84)):
            for _ in range(250):
                machine = maker.machine()
                machine.run(maker.schedule(), 80)
                ring, ways = ring_of(machine), ways_to_ring(machine)
                if not machine.is_whole() or not machine.left():
                    self.assertEqual((ring, ways), (None, {}))
                    continue
                rings += 1
                self.assertTrue(is_ring(machine, ring))
                self.assertEqual(ring[0], min(ring))
                self.assertEqual(len(set(ring)), len(ring))
                for name, other in zip(ring, ring[1:] + ring[:1]):
                    self.assertIn(other, holders_of(machine, name))
                self.assertEqual(list(ways), machine.left())
                for name, way in ways.items():
                    self.assertEqual(way[0], name)
                    self.assertEqual(way.count(way[-1]), 2)
                    self.assertEqual(len(set(way)), len(way) - 1)
                    for one, other in zip(way, way[1:]):
                        self.assertEqual(other, holders_of(machine, one)[0])
        self.assertGreater(rings, 40)

    def test_rings_looked_for_in_all_orders(self):
        maker = MachineMaker(85)
        for _ in range(60):
            machine = Machine(*maker.net())
            machine.run(maker.schedule(), 30)
            found = {name: holders_of(machine, name) for name in machine.processes()}

            def rings(way):
                for other in found[way[-1]]:
                    if other == way[0] and way[0] == min(way):
                        yield way
                    if other not in way:
                        yield from rings(way + [other])
            told = [ring for name in found for ring in rings([name])]
            for ring in told:
                self.assertTrue(is_ring(machine, ring))
            for _ in range(30):
                thing = maker.some(lambda: maker.pick(list(found)), 0, 3)
                self.assertEqual(is_ring(machine, thing), thing in told)


class AllStandOrNone(unittest.TestCase):
    def test_what_is_one(self):
        stands = 0
        maker = MachineMaker(86)
        for _ in range(250):
            machine = Machine(*maker.net())
            told = looked_at(machine, 80)
            if told[0] != ("one",) or not told[3]:
                continue
            ends = all_ends(machine, 150) or []
            self.assertTrue(all({name: end.waiting(name) for name in end.left()} == told[3] for end in ends))
            rings = [[end.left(), ways_to_ring(end), ring_of(end)] for end in ends]
            self.assertTrue(all(ring == rings[0] for ring in rings))
            stands += len(ends) > 0
        self.assertGreater(stands, 20)


if __name__ == "__main__":
    unittest.main()
