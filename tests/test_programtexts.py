"""Promise [6.7], and of [6.8] what program_fault tells."""

import unittest

from everypipe.errors import BadProgram, BadProgramText, BadRows
from everypipe.givens import program_of
from everypipe.programs import Program
from everypipe.programtexts import program_fault, program_text, read_program
from helper import any_objects, is_alike
from test_alone import ProgramMaker
from test_programs import ALL_ROWS


class Texts(unittest.TestCase):
    def test_examples(self):
        self.assertEqual(program_fault("take 0 a els"), (1, 13))
        self.assertEqual(program_fault("take 0 z"), (1, 8))
        text = "take 0 a else 3\nput 1 a 'x'\njump 0\n"
        self.assertEqual(program_text(read_program(text)), text)

    def test_all_rows(self):
        text = ("take 31 h else 17\nput 1 'x y' h n 'a\\'b\\\\c'\nput 0\nclose 3\nend 255\nset b\nset b b 'b'\nfield c d 10\n"
                "match 'a*b|\\\\\\\\\\'c' e else 0\nsame f g else 14\ncount i -5\ncount j k\ncount i 0\nless l 1000000 else 2\n"
                "less m n else 2\njump 14\nkeep\nkeep ''\nfirst a else 3\nleast h else 0\n")
        program = read_program(text)
        self.assertEqual(program_text(program), text)
        self.assertEqual(program.rows()[1], ("put", 1, [("text", "x y"), ("line", "h"), ("count", "n"), ("text", "a'b\\c")]))
        self.assertEqual(program.rows()[8], ("match", "a*b|\\\\'c", "e", 0))
        self.assertEqual(program.rows()[7], ("field", "c", "d", 10))
        self.assertTrue(is_alike(read_program(program_text(Program(ALL_ROWS))).rows(), ALL_ROWS))
        self.assertEqual(read_program("").rows(), [])
        self.assertEqual(program_text(program=Program([])), "")

    def test_faults(self):
        for text, fault in [
            ("t", (1, 2)), ("x", (1, 1)), ("tk", (1, 2)), ("take", (1, 5)), ("take\n", (1, 5)), ("take  ", (1, 6)), ("take 32 ", (1, 7)),
            ("take 0", (1, 7)), ("take 00", (1, 7)), ("take 01", (1, 7)), ("take 3a", (1, 7)), ("take 0 a 3", (1, 10)),
            ("take 0 aa", (1, 9)), ("take 0 i", (1, 8)), ("take 0 a else", (1, 14)), ("take 0 a else ", (1, 15)),
            ("take 0 a elsee", (1, 14)), ("take 0 a else 1", (1, 16)), ("take 0 a else 1 ", (1, 16)), ("take 0 a else -", (1, 15)),
            ("take 0 a else 1234567890", (1, 24)), ("put", (1, 4)), ("put 1", (1, 6)), ("put 1 ", (1, 7)), ("put 1 \n", (1, 7)),
            ("put 1 z", (1, 7)), ("put 1 a b", (1, 10)), ("put 1 ab", (1, 8)), ("put 1 '", (1, 8)), ("put 1 'a", (1, 9)),
            ("put 1 'a'", (1, 10)), ("put 1 'a'b", (1, 10)), ("put 1 '\\a", (1, 9)), ("put 1 '\\", (1, 9)), ("put 1 '%", (1, 8)),
            ("put 1 '\n", (1, 8)), ("put 1 '" + "x" * 60, (1, 68)), ("put 1 '" + "x" * 61, (1, 68)), ("put 1 '" + "x" * 60 + "\\", (1, 68)),
            ("put 1 '" + "x" * 59 + "\\'y", (1, 69)), ("put 1 a  b", (1, 9)), ("close 3", (1, 8)), ("close 3\nq", (2, 1)),
            ("close 3\n\n", (2, 1)), ("close 3\n ", (2, 1)), ("close 3 ", (1, 8)), ("end 256", (1, 7)), ("end 25", (1, 7)), ("end 259", (1, 7)),
            ("end 300", (1, 7)), ("end -", (1, 5)), ("field a b 0", (1, 11)), ("field a b 10\n", None), ("field a b", (1, 10)),
            ("match 'a", (1, 9)), ("match '", (1, 8)), ("match ''", (1, 8)), ("match '*", (1, 8)), ("match 'a|'", (1, 10)),
            ("match 'a\\\\", (1, 11)), ("match 'a\\\\'", (1, 11)), ("match 'a\\\\a", (1, 11)), ("match 'a\\\\.'", (1, 13)), ("match '(a'", (1, 10)),
            ("match '[b-a", (1, 11)), ("match '[b-\\", (1, 12)), ("match '[}-\\", (1, 11)), ("match '[a-\\\\\\", (1, 13)),
            ("match '[a-\\\\|]' a else 0\n", None), ("match a", (1, 7)), ("match 'a' i", (1, 11)), ("same a b else 0\n", None),
            ("count i", (1, 8)), ("count i a", (1, 9)), ("count i -", (1, 10)), ("count i -0", (1, 10)), ("count i --", (1, 10)),
            ("count i -1 ", (1, 11)), ("count i -123456789\n", None), ("count i -1234567890", (1, 19)), ("count i n\n", None),
            ("count i nn", (1, 10)), ("count a", (1, 7)), ("less i 5 els3", (1, 13)), ("jump 999999999\n", None), ("jump 0 ", (1, 7)),
            ("keep\n", None), ("keep ", (1, 6)), ("keepa", (1, 5)), ("first a else 0\nfirst", (2, 6)), ("least", (1, 6)), ("l", (1, 2)),
            ("se", (1, 3)), ("sa", (1, 3)), ("", None), ("\n", (1, 1)), (" ", (1, 1)), ("TAKE", (1, 1)), ("put 1\r\n", (1, 6)),
        ]:
            self.assertEqual(program_fault(text), fault, text)
            if fault is not None:
                with self.assertRaises(BadProgramText) as caught:
                    read_program(text)
                self.assertEqual((caught.exception.line, caught.exception.sign), fault)

    def test_no_strings(self):
        for thing in any_objects():
            told = program_fault(text=thing)
            if not isinstance(thing, str):
                self.assertTrue(is_alike(told, (0, 0)))
                with self.assertRaises(BadProgramText) as caught:
                    read_program(text=thing)
                self.assertEqual((caught.exception.line, caught.exception.sign), (0, 0))
                if not isinstance(thing, Program):
                    with self.assertRaises(BadProgram) as caught:
                        program_text(thing)
                    self.assertIs(caught.exception.program, thing)

    def test_numbers_of_rows_that_are_too_great(self):
        self.assertIsNone(program_fault("end 0\njump 3\n"))
        for text, index in [("end 0\njump 3\n", 1), ("take 0 a else 2\n", 0), ("jump 1\nless i j else 999999999\n", 1)]:
            with self.assertRaises(BadRows) as caught:
                read_program(text)
            self.assertEqual(caught.exception.index, index)
        self.assertEqual(read_program("end 0\njump 2\n").rows()[1], ("jump", 2))

    def test_one_text(self):
        maker = ProgramMaker(7)
        for _ in range(300):
            program = maker.pick([maker.program, lambda: program_of(maker.piece())])()
            text = program_text(program)
            self.assertIsNone(program_fault(text))
            self.assertTrue(read_program(text) == program)
            self.assertEqual(program_text(read_program(text)), text)

    def test_first_wrong_sign_at_every_place(self):
        """A sign is wrong just if no text that is read begins so: each text up to a right one can go on."""
        maker = ProgramMaker(8)
        texts = [program_text(maker.program()) for _ in range(40)] + [program_text(program_of(maker.piece())) for _ in range(20)]
        endings = self.endings()
        for text in texts:
            for at in range(len(text)):
                if text[at - 1] == "\n" or at == 0:
                    self.assertIsNone(program_fault(text[:at]))
                else:
                    self.assertEqual(program_fault(text[:at]), self.place(text[:at], at))
                if maker.chance(80):
                    continue
                more = text[:at] + maker.pick("ab09i -'\\\n|]e%x") + text[at + maker.random.randrange(2):]
                fault = program_fault(more)
                if fault is None:
                    continue
                index = self.index(more, fault)
                line = more[:index].split("\n")[-1]
                self.assertTrue(any(program_fault(line + ending) is None for ending in endings), (line, more))
                if index < len(more):
                    wrong = line + more[index]
                    self.assertFalse(any(program_fault(wrong + ending) is None for ending in endings), (wrong, more))

    def place(self, text, at):
        line = text[:at].count("\n") + 1
        return (line, at - (text[:at].rfind("\n") + 1) + 1)

    def index(self, text, fault):
        return sum(len(row) + 1 for row in text.split("\n")[:fault[0] - 1]) + fault[1] - 1

    def endings(self):
        """Ends of lines such that each right beginning of the texts here is completed by one of them."""
        words = "take put close end set field match same count less jump keep first least".split()
        rests = {"take": " 0 a else 0", "put": " 0", "close": " 0", "end": " 0", "set": " a", "field": " a a 1",
                 "match": " 'a' a else 0", "same": " a a else 0", "count": " i 0", "less": " i 0 else 0", "jump": " 0", "keep": "",
                 "first": " a else 0", "least": " a else 0"}
        found = [""]
        for word in words:
            line = word + rests[word]
            found += [line[at:] for at in range(len(line) + 1)]
        quotes = ["", "'"] + [escape + lot + piece + ")" * many + "'" for escape in ["", "\\", "'", "\\\\", "\\]", "\\|", ".", "|"]
                  for lot in ["", "]", "|]"] for piece in ["", "a"] for many in range(3)]
        found += [quote + rest for quote in quotes for rest in ["", " a else 0", " a"]]
        return [ending + "\n" for ending in found] + [""]


if __name__ == "__main__":
    unittest.main()
