"""Promise [14.5], and of [14.3] what two_schedules tells."""

import unittest

from everypipe.errors import BadMany
from everypipe.looking import looked_at
from everypipe.machines import Machine
from everypipe.orders import dependent
from everypipe.refusals import BadMachine, BadSchedule, TooMany
from everypipe.scriptmachines import script_machine
from everypipe.shellreading import read_script
from everypipe.sureness import cuts
from everypipe.twos import is_two, left_alike, two_schedules
from helper import any_objects, changed, is_alike, is_new
from made_machines import MachineMaker, all_ends, is_straight_net, own_parts, raised, telling
from test_machines import RandomMaker

P, Q, R = (0,), (1,), (2,)
PIPE = (0,)
PUT, TAKE = ("pipe", PIPE, "put"), ("pipe", PIPE, "take")
ADD = {3: ("file", "f", "add")}


def writers(*lines):
    """Processes that write a line each to one file."""
    return Machine({"f": []}, [(telling([("put", 3, line)]), ADD) for line in lines], {(): 1})


def endless_and_one(tail=()):
    wishes = [("put", 1, "a"), ("put", 1, "b"), *tail]
    return Machine({"f": []}, [(telling(wishes), {1: PUT, **ADD}), (telling([("take", 0)]), {0: TAKE})], {(): 1})


def row_by(machine, schedule, many):
    copy = machine.copy()
    copy.run(schedule, many)
    return copy


def told_parts(row):
    own = {name: list(deeds) for name, deeds in own_parts(row).items()}
    for name, deeds in own.items():
        if deeds[-1][1] == "broken":
            deeds.pop()
        own[name] = [deed[:3] if deed[1] == "over" and deed[2] is not None else deed for deed in deeds]
    return own


def do_part(one, other):
    """Whether two whole machines, begun alike, have rows that part, as [14.5] says it."""
    here, there = told_parts(one.deeds()), told_parts(other.deeds())
    if one.left() != other.left():
        return True
    for name in set(here) | set(there):
        short, long = sorted([here.get(name, []), there.get(name, [])], key=len)
        if short != long[:len(short)] or any(deed[1] in ("write", "cut", "make", "start", "signal") for deed in long[len(short):]):
            return True
        if short != long and all(name in machine.left() for machine in (one, other)):
            return True
    common = {name: min(len(here[name]), len(there[name])) for name in set(here) & set(there)}

    def places(row):
        done, found = {}, []
        for deed in row:
            done[deed[0]] = done.get(deed[0], 0) + 1
            if done[deed[0]] <= common.get(deed[0], 0):
                found.append((deed[0], done[deed[0]], deed))
        return found
    mine = places(one.deeds())
    order = {place[:2]: at for at, place in enumerate(places(other.deeds()))}
    return any(dependent(mine[a][2], mine[b][2]) and order[mine[a][:2]] > order[mine[b][:2]] for b in range(len(mine)) for a in range(b))


class IsTwo(unittest.TestCase):
    def check(self, machine, one, other, told):
        self.assertIs(is_two(machine, (one, other), 50), told)
        self.assertIs(is_two(machine=machine, thing=[tuple(other), tuple(one)], many=50), told)
        self.assertIs(do_part(row_by(machine, one, 50), row_by(machine, other, 50)), told)

    def test_dependent_ones_in_either_order(self):
        machine = writers("a", "b")
        self.check(machine, [0, 0], [1, 1], True)
        self.check(machine, [], [1], True)
        self.check(machine, [0, 1, 0], [0, 0, 0], False)
        self.check(machine, [], [], False)
        self.check(writers("a"), [], [7], False)
        # They part by the order of their deeds, though the same is left.
        self.check(writers("a", "a"), [0], [1], True)
        self.assertTrue(left_alike(writers("a", "a"), [0], [1], 9))

    def test_great_numbers_and_short_schedules(self):
        machine = writers("a", "b")
        self.check(machine, [10 ** 30], [10 ** 30 + 1], True)
        self.check(machine, [0] * 40, [1] * 60, True)

    def test_own_rows(self):
        # By [0, 0, 1] the second put is broken: that and what stands behind it is left out, if it touches nothing.
        self.check(endless_and_one(), [], [0, 0, 1], False)
        self.check(endless_and_one([("look", "f")]), [0, 1, 0, 0], [0, 0, 1], False)
        self.check(endless_and_one([("put", 3, "x")]), [0, 1, 0, 0], [0, 0, 1], True)
        self.check(endless_and_one([("open", 4, "g", "cut")]), [0, 1, 0, 0], [0, 0, 1], True)
        self.check(endless_and_one([("open", 4, "f", "cut")]), [0, 1, 0, 0], [0, 0, 1], True)
        self.check(endless_and_one([("start", [], {})]), [0, 1, 0, 0], [0, 0, 1], True)
        # Neither is a beginning of the other one: what (1,) finds.
        finder = (telling([("look", "f")]), {})
        maker = (telling([("open", 3, "f", "cut")]), {})
        self.check(Machine({}, [maker, finder], {(): 1}), [0, 1], [1, 0], True)
        self.check(Machine({"f": []}, [maker, finder], {(): 1}), [0, 1], [1, 0], False)

    def test_who_is_left(self):
        # (2,) takes the line that (1,) waits for.
        takers = [(telling([("take", 0)]), {0: TAKE, 1: PUT}), (telling([("take", 0)]), {0: TAKE})]
        machine = Machine({}, [(telling([("put", 1, "a")]), {1: PUT}), *takers], {(): 1})
        self.check(machine, [0, 0, 0], [0, 2], True)

    def test_unlike_and_over_in_neither(self):
        # Who of (1,) and (2,) takes the one line waits again behind it; the other one has waited all along.
        holds = {1: PUT, 0: ("pipe", (5,), "take"), 5: ("pipe", (5,), "put")}
        taker = telling([], ("take", 0))
        machine = Machine({}, [(telling([("put", 1, "a")], ("take", 0)), holds), (taker, {0: TAKE}), (taker, {0: TAKE})], {(): 1})
        self.check(machine, [0, 0], [0, 1], True)
        self.check(machine, [0, 0], [0, 2], False)
        # If they are over then, their rows part by that alone where they are not beginnings; here they are, and one is left.
        once = telling([("take", 0)])
        machine = Machine({}, [(telling([("put", 1, "a")], ("take", 0)), holds), (once, {0: TAKE}), (once, {0: TAKE})], {(): 1})
        self.check(machine, [0, 0], [0, 1], True)
        # The end and the standing still of the same beginnings.
        waiter = telling([("look", "f")], ("take", 0))
        child = lambda answers: ("take", 0)
        rows = [(child, {0: ("new", 0, "take"), 1: ("new", 0, "put")})]
        machine = Machine({}, [(telling([("start", rows, {}), ("signal", 0, "int")]), {}), (waiter, {0: TAKE, 1: PUT})], {(): 1})
        self.check(machine, [], [1, 1], False)
        # The one row is a beginning of the other one, and both go on to wait: what is read from a list that both share.
        reader = lambda answers: ("take", 0) if answers.count(None) < 1 else ("take", 1)
        shared = Machine({}, [(telling([("start", [(reader, {0: ("own", 0), 1: ("new", 0, "take"), 2: ("new", 0, "put")})] * 2, {})]), {0: ("lines", ["l"])})], {(): 1})
        self.check(shared, [0, 0, 0], [0, 1, 1], True)

    def test_the_status_of_a_child_is_left_out(self):
        rows = [(telling([("put", 1, "a"), ("put", 1, "b")]), {1: ("new", 0, "put")}), (telling([("take", 0)]), {0: ("new", 0, "take")})]
        for last, told in [(("over", ("child", 0)), False), (("ask", 0), True)]:
            machine = Machine({}, [(telling([("start", rows, {})], last) if last[0] == "over" else telling([("start", rows, {}), last]), {})], {(): 1})
            one, other = [0, 0, 0, 0, 0], [0, 0, 0, 1, 0]
            ends = [row_by(machine, schedule, 50) for schedule in (one, other)]
            self.assertEqual({end.status((0, 0)) for end in ends}, {0, 141})
            self.check(machine, one, other, told)

    def test_not_whole(self):
        machine = writers("a", "b")
        self.assertIs(is_two(machine, ([0], [1]), 4), True)
        for many in range(4):
            self.assertIs(is_two(machine, ([0], [1]), many), False)

    def test_any_object(self):
        machine = writers("a", "b")
        for thing in any_objects() + [([0],), ([0], [1], [2]), ([0], None), ([0], [-1]), ([0], [True]), ([0], ["1"]), ([0], {}), {0: 1}, "ab"]:
            self.assertIs(is_two(machine, thing, 9), False)

    def test_as_told_straight(self):
        seen = set()
        for maker in (MachineMaker(71), RandomMaker(72)):
            for _ in range(250):
                machine = maker.machine()
                one, other = maker.schedule(30), maker.schedule(30)
                ends = [row_by(machine, schedule, 80) for schedule in (one, other)]
                told = all(end.is_whole() for end in ends) and do_part(*ends)
                self.assertIs(is_two(machine, [one, other], 80), told)
                seen.add(told)
        self.assertEqual(len(seen), 2)


class TwoSchedules(unittest.TestCase):
    def test_none(self):
        self.assertIsNone(two_schedules(endless_and_one(), 99))
        self.assertIsNone(two_schedules(writers("a", "b"), 3))
        self.assertIsNone(two_schedules(writers("a"), 99))

    def test_pairs(self):
        for machine, many in [(writers("a", "b"), 4), (endless_and_one([("put", 3, "x")]), 6)]:
            twin = machine.copy()
            told = two_schedules(machine=machine, many=many)
            self.assertIsInstance(told, tuple)
            self.assertTrue(all(isinstance(schedule, list) for schedule in told))
            self.assertTrue(is_two(machine, told, many))
            self.assertTrue(is_two(machine, changed(told), many))
            self.assertTrue(is_alike(two_schedules(machine, many), told))
            self.assertTrue(is_new(told, two_schedules(machine, many)))
            self.assertTrue(machine == twin)

    def test_scripts(self):
        for text, tree in [("say a >> f & say b >> f; wait", {"f": []}), ("{ yes a; say $? > f; } | head 1", {}), ("{ say a; say b; say c > g; } | head 1 > f", {}),
                           ("strict on; seq 1 9 | head 1; say $?", {}), ("cat < f & say a >> f; wait", {"f": ["u"]})]:
            machine = script_machine(read_script(text), tree, [], [], {(): 9})
            word = looked_at(machine, 200)[0]
            told = two_schedules(machine, 200)
            self.assertEqual(told is None, word == ("one",), (text, word))
            if told is not None:
                self.assertTrue(is_two(machine, told, 200))

    def promised(self, machine, many):
        """Whether [14.3] promises two schedules that part."""
        told = looked_at(machine, many)
        if told == ("many",) or not is_straight_net(told[1], told[2]):
            return False
        word, net, row, _ = told
        cut = cuts(net, row)
        number = [sum(deed[0] == row[at][0] for deed in row[:at + 1]) for at in range(len(row))]
        is_sure = lambda at: number[at] <= cut.get(row[at][0], number[at])
        return word[0] in ("touch", "asked") or (word[0] == "pair" and is_sure(word[1]) and is_sure(word[2]))

    def test_all_that_is_promised(self):
        kinds, more = {}, 0
        makers = [(MachineMaker(73), lambda maker: Machine(*maker.straight()), 500), (MachineMaker(74), lambda maker: Machine(*maker.with_parent(maker.straight())), 250),
                  (MachineMaker(75), lambda maker: Machine(*maker.net()), 300), (MachineMaker(76), lambda maker: maker.script_machine(), 250),
                  (RandomMaker(77), lambda maker: maker.machine(), 150)]
        for maker, make, times in makers:
            for _ in range(times):
                machine = make(maker)
                told, looked = two_schedules(machine, 200), looked_at(machine, 200)
                word = looked if looked == ("many",) else looked[0]
                if word[0] in ("many", "one", "open"):
                    self.assertIsNone(told)
                elif told is not None:
                    self.assertTrue(is_two(machine, told, 200))
                    ends = [row_by(machine, schedule, 200) for schedule in told]
                    self.assertTrue(all(end.is_whole() for end in ends) and do_part(*ends))
                    more += not self.promised(machine, 200)
                if self.promised(machine, 200):
                    self.assertIsNotNone(told)
                    kinds[word[0]] = kinds.get(word[0], 0) + 1
        self.assertEqual(sorted(kinds), ["asked", "pair", "touch"])
        self.assertGreater(min(kinds.values()), 5)
        self.assertGreater(more, 20)

    def test_what_is_one_has_none(self):
        maker = MachineMaker(78)
        tried = 0
        while tried < 60:
            machine = maker.machine()
            told = looked_at(machine, 60)
            if told[0] != ("one",) or len(told[2]) > 12:
                continue
            ends = all_ends(machine, 120)
            if ends is not None:
                tried += 1
                self.assertFalse(any(do_part(one, other) for one in ends for other in ends))
                for _ in range(3):
                    one, other = maker.schedule(), maker.schedule()
                    self.assertFalse(is_two(machine, (one, other), 60))
                    self.assertTrue(left_alike(machine, one, other, 60))

    def test_wrong(self):
        done = writers("a")
        done.step(P)
        for function in (two_schedules, lambda machine, many: is_two(machine, None, many), lambda machine, many: left_alike(machine, [], [], many)):
            for thing in any_objects() + [done]:
                self.assertIs(raised(BadMachine, function, thing, None).machine, thing)
            for thing in [None, -1, True, "9", []]:
                self.assertIs(raised(BadMany, function, writers("a"), thing).many, thing)


class LeftAlike(unittest.TestCase):
    def test_files_and_who_is_left(self):
        machine = writers("a", "b")
        twin = machine.copy()
        self.assertIs(left_alike(machine, [0], [1], 4), False)
        self.assertIs(left_alike(machine=machine, one=(0,), other=[0, 1, 1], many=4), True)
        self.assertTrue(machine == twin)
        takers = [(telling([("take", 0)]), {0: TAKE, 1: PUT}), (telling([("take", 0)]), {0: TAKE})]
        machine = Machine({}, [(telling([("put", 1, "a")]), {1: PUT}), *takers], {(): 1})
        self.assertIs(left_alike(machine, [0, 0, 0], [0, 2], 50), False)
        self.assertIs(left_alike(machine, [0, 0, 0], [0, 1], 50), True)
        self.assertIs(left_alike(endless_and_one([("put", 3, "x")]), [0, 1, 0, 0], [0, 0, 1], 50), False)
        self.assertIs(left_alike(endless_and_one(), [0, 1, 0, 0], [0, 0, 1], 50), True)

    def test_wrong(self):
        machine = writers("a", "b")
        for schedule, index in [(None, 0), ("a", 0), ({}, 0), ([0, -1], 1), ([True], 0), ([0, 1, "2"], 2), ([None], 0)]:
            self.assertEqual(raised(BadSchedule, left_alike, machine, schedule, None, None).index, index)
            self.assertEqual(raised(BadSchedule, left_alike, machine, [], schedule, None).index, index)
        for many in range(4):
            self.assertIs(raised(TooMany, left_alike, machine, [], [], many).many, many)
        # Of six deeds and of four.
        for one, other in (([0, 1, 0, 0], [0, 0, 1]), ([0, 0, 1], [0, 1, 0, 0])):
            self.assertEqual(raised(TooMany, left_alike, endless_and_one([("put", 3, "x")]), one, other, 5).many, 5)
            self.assertIs(left_alike(endless_and_one([("put", 3, "x")]), one, other, 6), False)
        endless = Machine({}, [(lambda answers: ("look", "f"), {})], {(): 1})
        self.assertEqual(raised(TooMany, left_alike, endless, [], [], 30).many, 30)


if __name__ == "__main__":
    unittest.main()
