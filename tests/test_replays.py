"""Promise [18.2]."""

import unittest

from everypipe.machines import Machine
from everypipe.refusals import BadMachine, BadProcesses, BadRowOf, NotDone
from everypipe.replays import again, is_done_by, led, schedule_of
from helper import any_objects, changed, is_alike, is_new
from made_machines import MachineMaker, raised, telling
from test_machines import Example, RandomMaker
from test_orders import NO_FORMS

P, Q, PIPE = (0,), (1,), (0,)


def example():
    return Example().machine()


ROW = example().run([0, 0, 1], 9)


class Again(unittest.TestCase):
    def test_again(self):
        machine = example()
        twin = machine.copy()
        for many in range(len(ROW) + 1):
            told = again(machine=machine, row=ROW[:many])
            other = machine.copy()
            other.run([0, 0, 1], many)
            self.assertTrue(told == other)
            self.assertTrue(again(machine, changed(ROW[:many])) == other)
        self.assertTrue(machine == twin)

    def test_not_done(self):
        for row, index in [([ROW[1]], 0), (ROW[:2] + ROW[1:2], 2), (ROW + ROW[-1:], 4), (ROW[:3] + [(P, "put", PIPE, "b")], 3), ([(P, "put", PIPE, "b")], 0), ([((7,), "over", None, 0)], 0),
                           ([(P, "put", PIPE, "a"), (P, "put", PIPE, "b")], 1)]:
            for function in (again, schedule_of):
                self.assertEqual(raised(NotDone, function, example(), row).index, index)
            self.assertIs(is_done_by(example(), row), False)

    def test_forms_ahead_of_what_is_done(self):
        for function in (again, schedule_of):
            for deed in NO_FORMS + [((10 ** 19,), "over", None, 0)]:
                self.assertEqual(raised(BadRowOf, function, example(), [ROW[1], deed]).index, 1)
            for thing in any_objects():
                if not isinstance(thing, (list, tuple)):
                    self.assertEqual(raised(BadRowOf, function, example(), thing).index, 0)

    def test_is_done_by(self):
        for row in ([], (), ROW, changed(ROW), ROW[:2]):
            self.assertIs(is_done_by(machine=example(), thing=row), True)
        for thing in any_objects() + [[deed] for deed in NO_FORMS] + [ROW[0], {0: ROW[0]}, [[*ROW[0], 1]], [ROW[0][:3]], [(P, "put", (False,), "a")], [((False,), "put", PIPE, "a")]]:
            self.assertIs(is_done_by(example(), thing), thing in ([], ()) and isinstance(thing, (list, tuple)))

    def test_lists_in_deeds(self):
        machine = Machine({"f": [], "d": {}}, [(telling([("list", "")]), {})], {(): 1})
        for names, told in [(["d", "f"], True), (("d", "f"), True), (["f", "d"], False), (["d"], False), (None, False)]:
            self.assertIs(is_done_by(machine, [(P, "list", "", names)]), told)

    def test_schedules(self):
        machine = example()
        told = schedule_of(machine=machine, row=ROW)
        self.assertTrue(is_alike(told, [0, 0, 1, 0]))
        self.assertTrue(is_alike(schedule_of(machine, changed(ROW)), told))
        self.assertTrue(is_new(told, schedule_of(machine, ROW)))
        self.assertEqual(schedule_of(machine, []), [])

    def test_led(self):
        machine = example()
        twin = machine.copy()
        told = led(machine=machine, processes=[deed[0] for deed in ROW])
        self.assertTrue(is_alike(told, ROW))
        self.assertTrue(is_alike(led(machine, ([0], [1], [1], [0])), ROW))
        self.assertTrue(is_new(told, led(machine, [deed[0] for deed in ROW])))
        self.assertTrue(machine == twin)
        self.assertEqual(led(machine, []), [])
        for processes, index in [(None, 0), ("0", 0), ({}, 0), (P, 0), ([Q], 0), ([P, P], 1), ([P, (9,)], 1), ([P, (True,)], 1), ([P, Q, 0], 2), ([P, Q, Q, P, P], 4), ([()], 0), ([None], 0)]:
            self.assertEqual(raised(BadProcesses, led, machine, processes).index, index, processes)

    def test_rows_tell_all(self):
        for maker in (MachineMaker(161), RandomMaker(162)):
            for _ in range(150):
                machine = maker.machine()
                machine.run(maker.schedule(), maker.random.randrange(6))
                behind = machine.copy()
                row = behind.run(maker.schedule(), 40)
                names = [deed[0] for deed in row]
                self.assertTrue(is_alike(led(machine, names), row))
                self.assertTrue(again(machine, row) == behind)
                self.assertTrue(is_done_by(machine, row))
                picks = schedule_of(machine, row)
                other = machine.copy()
                for pick, deed in zip(picks, row):
                    self.assertLess(pick, len(other.can()))
                    self.assertEqual(other.can()[pick], deed[0])
                    other.step(deed[0])
                other = machine.copy()
                self.assertTrue(is_alike(other.run(picks, len(row)), row))
                if len(row) > 1:
                    at = maker.random.randrange(len(row))
                    self.assertIs(is_done_by(machine, row[:at] + [(*row[at][:3], "other")] + row[at + 1:]), False)

    def test_wrong(self):
        for function in (again, is_done_by, schedule_of, led):
            for thing in any_objects():
                self.assertIs(raised(BadMachine, function, thing, None).machine, thing)


if __name__ == "__main__":
    unittest.main()
