"""Promise [13.5], and of [13.6] what stands in this file."""

import unittest

from everypipe.machines import Machine
from everypipe.refusals import BadNet, BadRow
from everypipe.sureness import cuts
from helper import any_objects, changed, is_alike, is_new
from made_machines import MachineMaker, raised, telling
from second_story import SecondStory
from test_machines import RandomMaker

P, Q, R, S = (0,), (1,), (2,), (3,)
PIPE, LATTER = (0,), (1,)
NET = ({PIPE: 1}, {P: [(PIPE, "put")], Q: [(PIPE, "take")]})
put, take = (P, "put", PIPE, "a"), (Q, "take", PIPE, "a")
over_p, over_q, broken = (P, "over", None, 0), (Q, "over", None, 0), (P, "broken", PIPE, "a")


class Cuts(unittest.TestCase):
    def test_example(self):
        self.assertTrue(is_alike(cuts(NET, [put, take, put, over_q, broken]), {P: 2}))

    def test_one_pipe(self):
        for row, told in [
            ([], {}), ([put], {}), ([put, take], {}), ([put, over_p], {}), ([put, take, put, over_p], {}), ([put, over_p, over_q], {P: 1}),
            ([put, take, over_p, over_q], {}), ([put, take, put, over_p, over_q], {P: 2}), ([over_q, broken], {}), ([put, over_q, broken], {P: 1}),
            ([put, (Q, "drop", (PIPE, "take"), None)], {P: 1}), ([put, (Q, "become", ((PIPE, "take"),), None)], {P: 1}), ([put, (Q, "become", (), None)], {}),
            # Who hears the end stops behind it: no put can be broken.
            ([put, take, over_p, (Q, "heard", PIPE, None), over_q], {}), ([put, take, (P, "put", None, "x"), over_p, over_q], {}),
        ]:
            self.assertEqual(cuts(net=NET, row=row), told, row)
            self.assertEqual(cuts(changed(NET), changed(row)), told)

    def test_rooms(self):
        # With room for both the second put needs no take: what shuts has the first one, taken, alone.
        for room in (1, 2, 5):
            net = ({PIPE: room}, NET[1])
            self.assertEqual(cuts(net, [put, take, put, over_p, over_q]), {P: 2})

    def test_all_takers_have_to_stop(self):
        net = ({PIPE: 3}, {P: [(PIPE, "put")], Q: [(PIPE, "take")], R: [(PIPE, "take")]})
        self.assertEqual(cuts(net, [put, put, over_q]), {})
        self.assertEqual(cuts(net, [put, put, over_q, (R, "over", None, 0)]), {P: 1})
        self.assertEqual(cuts(net, [put, put, take, over_q, (R, "take", PIPE, "a"), (R, "over", None, 0)]), {})
        self.assertEqual(cuts(net, [put, put, take, over_q, (R, "over", None, 0)]), {P: 2})

    def test_who_is_shut_may_shut_another_one(self):
        # (2,) takes one line and is over; (1,) hands lines on, and can be broken at its second one; so can (0,), at its third.
        net = ({PIPE: 1, LATTER: 1}, {P: [(PIPE, "put")], Q: [(PIPE, "take"), (LATTER, "put")], R: [(LATTER, "take")]})
        hand = [put, take, (Q, "put", LATTER, "a")]
        row = [*hand, (R, "take", LATTER, "a"), *hand, put, take, over_p, (R, "over", None, 0), (Q, "broken", LATTER, "a")]
        self.assertEqual(cuts(net, row), {P: 3, Q: 4})
        self.assertEqual(cuts(net, row[:-1]), {Q: 4})

    def test_who_can_be_broken_at_once_has_seen_nothing(self):
        # (0,) can be broken at its first deed: then (1,) is shut ahead of all that (0,) takes of it.
        net = ({PIPE: 1, LATTER: 1}, {P: [(PIPE, "put"), (LATTER, "take")], Q: [(LATTER, "put")], R: [(PIPE, "take")]})
        row = [put, (Q, "put", LATTER, "b"), (P, "take", LATTER, "b"), over_p, over_q, (R, "over", None, 0)]
        self.assertEqual(cuts(net, row), {P: 1, Q: 1})
        # Behind a deed of its own that took a line it has seen that.
        row = [(Q, "put", LATTER, "b"), (P, "take", LATTER, "b"), put, over_p, over_q, (R, "over", None, 0)]
        self.assertEqual(cuts(net, row), {P: 2})

    def test_nothing_is_ahead_of_a_first_deed(self):
        # (0,) can be broken ahead of starting its child, which can be broken at its first deed: that has nothing of (1,) ahead of it.
        child, rest, last = (0, 0), (2,), (3,)
        pipes = [(number,) for number in range(4)]
        first, lines, shared, other = pipes
        net = ({pipe: 1 for pipe in pipes}, {P: [(first, "put"), (lines, "take"), (shared, "take"), (other, "put")], child: [(shared, "take"), (other, "put")],
                                             Q: [(lines, "put"), (shared, "put")], rest: [(first, "take")], last: [(other, "take")]})
        row = [(P, "put", first, "a"), (Q, "put", shared, "b"), (Q, "put", lines, "c"), (P, "take", lines, "c"), (P, "start", (child,), ()), (P, "drop", (other, "put"), None),
               (P, "drop", (shared, "take"), None), (child, "put", other, "d"), (child, "over", None, 0), over_p, over_q, (rest, "over", None, 0), (last, "over", None, 0)]
        self.assertEqual(cuts(net, row), {P: 1, child: 1, Q: 1})

    def test_the_end_of_a_child_that_may_come_earlier(self):
        # (0,) starts (0, 0), that puts to (1,), waits for it, and then shuts the pipe of (2,).
        child = (0, 0)
        net = ({PIPE: 1, LATTER: 1}, {P: [(PIPE, "put"), (LATTER, "take")], child: [(PIPE, "put")], Q: [(PIPE, "take")], R: [(LATTER, "put")]})
        ahead = [(P, "start", (child,), ()), (P, "drop", (PIPE, "put"), None), (child, "put", PIPE, "a"), over_q, (child, "over", None, 0)]
        for deed in [(P, "wait", child, None), (P, "ask", child, 0)]:
            row = [*ahead, deed, (R, "put", LATTER, "b"), (P, "over", None, 0)]
            self.assertEqual(cuts(net, row), {child: 1, R: 1})
        self.assertEqual(cuts(net, [*ahead, (R, "put", LATTER, "b"), (P, "over", child, 0)]), {child: 1, R: 1})
        # What (1,) takes behind what (2,) did has to come ahead: unless the child is broken.
        row = [*ahead[:3], (R, "put", LATTER, "b"), (Q, "take", PIPE, "a"), (child, "over", None, 0),
               (P, "wait", child, None), (P, "over", None, 0), over_q]
        self.assertEqual(cuts(net, row), {R: 1})

    def test_as_told_straight(self):
        many = 0
        for maker in (MachineMaker(41), RandomMaker(42)):
            for _ in range(200):
                machine = maker.machine()
                machine.run(maker.schedule(), 60)
                net, row = machine.shape(), machine.deeds()
                told = cuts(net, row)
                self.assertTrue(is_alike(told, SecondStory(net, row).cut))
                self.assertTrue(is_new(told, *net, row))
                many += len(told)
        self.assertGreater(many, 60)

    def test_what_is_passed_stays(self):
        net, row = ({PIPE: 1}, {P: [(PIPE, "put")], Q: [(PIPE, "take")]}), [put, take, put, over_q, broken]
        cuts(net, row)
        self.assertEqual((net, row), (NET, [put, take, put, over_q, broken]))

    def test_wrong(self):
        for thing in any_objects():
            self.assertIs(raised(BadNet, cuts, thing, None).net, thing)
            if thing not in ([], ()):
                self.assertIs(raised(BadRow, cuts, NET, thing).row, thing)
        self.assertEqual(cuts(({}, {}), []), {})

    def test_machines_of_one_process(self):
        machine = Machine({}, [(telling([("put", 1, "a")] * 2), {1: ("pipe", PIPE, "put"), 0: ("pipe", PIPE, "take")})], {(): 3})
        machine.run([], 9)
        self.assertEqual(cuts(machine.shape(), machine.deeds()), {})


if __name__ == "__main__":
    unittest.main()
