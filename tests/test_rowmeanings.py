"""Promise [8.5], and of [8.8] what row_meaning tells."""

import unittest

from everypipe.errors import BadMost, BadPieces
from everypipe.givens import plain_of, program_of
from everypipe.actors import actor_of
from everypipe.machines import Machine
from everypipe.patterntexts import pattern_text, read_pattern
from everypipe.plain import plain_meaning
from everypipe.refusals import BadLines
from everypipe.rowmeanings import row_meaning
from everypipe.shellreading import read_script
from helper import Maker, changed, is_alike, is_new
from test_alone import WRONG_NUMBERS, WRONG_PIECES

THREE = read_pattern("3")


class RowMaker(Maker):
    def piece(self):
        return self.pick([("cat",), ("cut", self.pick([1, 2])), ("uniq",), ("grep", self.pattern(2)), ("grep", ("of", "a")), ("head", self.pick([0, 1, 2, 5])),
                          ("tail", self.pick([0, 1, 2])), ("sort",), ("wc",), ("seq", self.pick([0, 3]), self.pick([2, 5])), ("true",), ("false",)])

    def pieces(self):
        return self.some(self.piece, 1, 6)


class RowMeanings(unittest.TestCase):
    def test_example(self):
        self.assertTrue(is_alike(row_meaning([("seq", 1, 9), ("grep", THREE), ("head", 1)], [], 20), (["3"], [0, 0, 0], [0, 9, 1])))

    def test_rows(self):
        yes = ("yes", "y")
        for pieces, lines, told in [
            ([("cat",)], ["a", "b"], (["a", "b"], [0], [2])), ([("head", 1)], ["a", "b"], (["a"], [0], [1])), ([("head", 0)], ["a"], ([], [0], [0])),
            ([yes, ("head", 2)], ["a"], (["y", "y"], [141, 0], [0, 2])), ([("cat",), ("head", 1)], ["a", "b", "c"], (["a"], [141, 0], [2, 1])),
            ([("cat",), ("true",)], ["a", "b"], ([], [141, 0], [1, 0])), ([("cat",), ("true",)], [], ([], [0, 0], [0, 0])),
            ([("sort",), ("head", 1)], ["b", "a"], (["a"], [141, 0], [2, 1])), ([("grep", THREE), ("false",)], ["1", "2"], ([], [1, 1], [2, 0])),
            ([yes, ("cat",), ("uniq",), ("head", 1)], [], None), ([yes, ("cat",), ("head", 1)], [], (["y"], [141, 141, 0], [0, 2, 1])),
            ([("seq", 1, 3), ("wc",)], [], (["3"], [0, 0], [0, 3])), ([("cat",), ("seq", 1, 2)], ["a"], (["1", "2"], [141, 0], [1, 0])),
            ([yes], [], None), ([yes, ("wc",)], [], None), ([("false",), ("cat",)], ["a"], ([], [1, 0], [0, 0])),
        ]:
            self.assertTrue(is_alike(row_meaning(pieces, lines, 20), told), pieces)
            self.assertTrue(is_alike(row_meaning(pieces=changed(pieces), lines=tuple(lines), most=20), told))

    def test_most(self):
        for most in range(6):
            told = row_meaning([("cat",)], ["a", "b", "c"], most)
            self.assertEqual(told is None, most < 3)
            told = row_meaning([("cat",), ("wc",)], ["a", "b", "c"], most)
            self.assertEqual(told is None, most < 3)
            told = row_meaning([("yes", "a"), ("head", 3)], [], most)
            self.assertEqual(told is None, most < 3)
        self.assertEqual(row_meaning([("true",)], ["a"], 0), ([], [0], [0]))

    def test_composition(self):
        maker = RowMaker(1)
        for _ in range(600):
            pieces, lines = maker.pieces(), maker.some(maker.line, 0, 5)
            outs, statuses, takes = row_meaning(pieces, lines, 200)
            whole, ahead = list(lines), None
            for at, piece in enumerate(pieces):
                plain_outs, status = plain_of(piece, {0: whole}, 200)
                own = plain_outs.get(1, [])
                puts = takes[at + 1] if at + 1 < len(pieces) else len(outs)
                self.assertLessEqual(puts, len(own))
                self.assertLessEqual(takes[at], len(whole))
                self.assertIn(statuses[at], (status, 141))
                if statuses[at] != 141:
                    self.assertEqual(puts, len(own))
                whole, ahead = own, piece
            self.assertEqual(outs, whole)
            self.assertEqual(statuses[-1], plain_of(pieces[-1], {0: self.ahead(pieces, lines)}, 200)[1])
            self.assertTrue(is_new((outs, statuses, takes), pieces, lines))

    def ahead(self, pieces, lines):
        for piece in pieces[:-1]:
            lines = plain_of(piece, {0: lines}, 200)[0].get(1, [])
        return lines

    def test_as_machines_and_as_plain(self):
        maker = RowMaker(2)
        words = {"cat": "cat", "uniq": "uniq", "sort": "sort", "wc": "wc", "true": "true", "false": "false"}
        for _ in range(200):
            pieces, lines = maker.some(maker.piece, 2, 5), maker.some(lambda: maker.pick(["a", "b a", "", "a"]), 0, 5)
            if any(piece[0] == "grep" and "'" in pattern_text(piece[1]) for piece in pieces):
                continue
            outs, statuses, takes = row_meaning(pieces, lines, 200)
            holders = []
            for at, piece in enumerate(pieces):
                leads = {0: ("pipe", (at - 1,), "take") if at else ("lines", lines), 1: ("pipe", (at,), "put")}
                if at == len(pieces) - 1:
                    leads[1] = ("file", "out", "cut")
                holders.append((actor_of(program_of(piece)), leads))
            machine = Machine({}, holders, {(): maker.pick([1, 2])})
            machine.run([maker.random.randrange(5) for _ in range(40)], 900)
            self.assertEqual(machine.files()["out"], outs)
            self.assertEqual(machine.status((len(pieces) - 1,)), statuses[-1])
            text = " | ".join(words.get(piece[0]) or piece[0] + " " + " ".join(
                "'" + pattern_text(part) + "'" if piece[0] == "grep" else str(part) for part in piece[1:]) for piece in pieces)
            told = plain_meaning(read_script("strict on; " + text), {}, [], lines, 5000)
            wrong = [status for status in statuses if status]
            self.assertEqual(told, ("ends", wrong[-1] if wrong else 0, {"err": [], "out": outs}, takes[0]), text)

    def test_wrong(self):
        for thing in [None, 1, "cat", {}, [], ()]:
            with self.assertRaises(BadPieces) as caught:
                row_meaning(thing, None, None)
            self.assertEqual(caught.exception.index, 0)
        for piece in [*WRONG_PIECES, ("tee", 3), ("paste", 3)]:
            with self.assertRaises(BadPieces) as caught:
                row_meaning([("cat",), ("yes", ""), piece, None], None, None)
            self.assertEqual(caught.exception.index, 2)
        for lines, index in [(None, 0), ("a", 0), ({}, 0), (["a", 1], 1), (["a", "b", "x" * 61], 2)]:
            with self.assertRaises(BadLines) as caught:
                row_meaning([("cat",)], lines, None)
            self.assertEqual(caught.exception.index, index)
        for most in WRONG_NUMBERS:
            with self.assertRaises(BadMost) as caught:
                row_meaning([("cat",)], [], most)
            self.assertIs(caught.exception.most, most)


if __name__ == "__main__":
    unittest.main()
