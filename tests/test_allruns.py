"""Promise [18.4], and of [18.5] what stands in this file."""

import unittest

from everypipe.allruns import soonest, stands_of
from everypipe.errors import BadMost
from everypipe.machines import Machine
from everypipe.refusals import BadMachine, BadPair
from helper import any_objects, changed, is_alike, is_new
from made_machines import MachineMaker, raised, telling
from test_machines import Example, RandomMaker

P, Q, R = (0,), (1,), (2,)
ONE = {(): 1}


def example():
    return Example().machine()


def all_rows(machine, most):
    """All whole rows, gone through one by one."""
    if not machine.can():
        return [[]]
    rows = []
    for name in machine.can() if most else []:
        other = machine.copy()
        deed = other.step(name)
        rows += [[deed] + row for row in all_rows(other, most - 1)]
    return rows


def soonest_again(machine, one, other, most):
    level = [(machine, [])]
    for _ in range(most + 1):
        behind = []
        for here, names in level:
            words = {}
            for name in here.can():
                copy = here.copy()
                words[name] = copy.step(name)[1]
                behind.append((copy, names + [name]))
            if words.get(one[0]) == one[1] and words.get(other[0]) == other[1]:
                return names
        level = behind
    return None


class Stands(unittest.TestCase):
    def test_example(self):
        machine = example()
        twin = machine.copy()
        told = stands_of(machine=machine, most=9)
        self.assertEqual([[deed[0] for deed in row] for row in told], [[P, Q, P, P, Q], [P, Q, P, Q, P], [P, Q, Q, P]])
        for row in told:
            copy = machine.copy()
            self.assertTrue(is_alike([copy.step(deed[0]) for deed in row], row))
        self.assertTrue(is_new(told, stands_of(machine, 9)))
        self.assertTrue(machine == twin)
        self.assertEqual([len(stands_of(machine, most)) for most in range(7)], [0, 0, 0, 0, 1, 3, 3])

    def test_ends(self):
        whole = example()
        whole.run([], 9)
        for most in (0, 3):
            self.assertTrue(is_alike(stands_of(whole, most), [[]]))
        endless = Machine({}, [(telling([], ("look", "f")), {})], ONE)
        self.assertEqual(stands_of(endless, 8), [])
        behind = example()
        behind.step(P)
        self.assertEqual(stands_of(behind, 9), [row[1:] for row in stands_of(example(), 9)])

    def test_lists_are_new(self):
        machine = Machine({}, [(telling([("list", "")]), {}), (telling([]), {})], ONE)
        told = stands_of(machine, 9)
        self.assertEqual(len(told), 3)
        self.assertTrue(is_new(told))

    def test_all_of_them(self):
        rows, tried = 0, 0
        for maker in (MachineMaker(181), RandomMaker(182)):
            while tried < 60 * (1 + isinstance(maker, RandomMaker)):
                machine = maker.machine()
                most = maker.random.randrange(8)
                found = all_rows(machine, most)
                if len(found) < 300:
                    tried += 1
                    rows += len(found)
                    told = stands_of(machine, most)
                    self.assertTrue(is_alike(told, found))
                    names = [[deed[0] for deed in row] for row in told]
                    self.assertEqual(names, sorted(names))
        self.assertGreater(rows, 200)

    def test_no_way_is_gone_twice(self):
        # Of three that look four times each there are many rows, and few machines.
        machine = Machine({}, [(telling([("look", "f")] * 4, ("take", 0)), {0: ("pipe", (at,), "take"), 1: ("pipe", (at,), "put")}) for at in range(3)], ONE)
        self.assertEqual(len(stands_of(machine, 12)), 34650)
        self.assertIsNone(soonest(machine, (P, "over"), (Q, "look"), 12))


class Soonest(unittest.TestCase):
    def test_example(self):
        machine = example()
        told = soonest(machine=machine, one=(P, "put"), other=(Q, "over"), most=9)
        self.assertTrue(is_alike(told, [P, Q]))
        self.assertTrue(is_alike(soonest(machine, changed((Q, "over")), changed((P, "put")), 2), [P, Q]))
        self.assertIsNone(soonest(machine, (P, "put"), (Q, "over"), 1))

    def test_words(self):
        for one, other, told in [((P, "put"), (P, "put"), []), ((P, "put"), (Q, "take"), None), ((P, "broken"), (P, "broken"), [P, Q, Q]), ((Q, "take"), (Q, "take"), [P]),
                                 ((P, "over"), (Q, "over"), [P, Q, P]), ((P, "broken"), (Q, "over"), None), ((P, "put"), (P, "broken"), None), ((R, "put"), (P, "put"), None),
                                 (((0, 0), "over"), (P, "put"), None), ((P, "other"), (P, "put"), None), ((P, ""), (P, ""), None)]:
            self.assertTrue(is_alike(soonest(example(), one, other, 9), told), (one, other))

    def test_as_gone_through(self):
        found = 0
        for maker in (MachineMaker(183), RandomMaker(184)):
            for _ in range(150):
                machine = maker.machine()
                machine.run(maker.schedule(), maker.random.randrange(3))
                word = lambda: maker.pick(["put", "take", "over", "over", "broken", "write"])
                one, other = (maker.pick(machine.processes()), word()), (maker.pick(machine.processes()), word())
                most = maker.random.randrange(6)
                told = soonest(machine, one, other, most)
                self.assertTrue(is_alike(told, soonest_again(machine, one, other, most)))
                found += told is not None and len(told) > 0
        self.assertGreater(found, 5)

    def test_wrong(self):
        for function in (lambda machine, most: stands_of(machine, most), lambda machine, most: soonest(machine, (P, "put"), (Q, "put"), most)):
            for thing in any_objects():
                self.assertIs(raised(BadMachine, function, thing, None).machine, thing)
            for thing in [None, -1, True, "9", []]:
                self.assertIs(raised(BadMost, function, example(), thing).most, thing)
        for pair in any_objects() + [(P,), (P, 1), (P, "put", 1), (0, "put"), ((), "put"), ((True,), "put"), ((-1,), "put"), "ab", {0: P}, (None, "put")]:
            self.assertIs(raised(BadPair, soonest, example(), pair, None, None).pair, pair)
            self.assertIs(raised(BadPair, soonest, example(), (P, "put"), pair, None).pair, pair)


if __name__ == "__main__":
    unittest.main()
