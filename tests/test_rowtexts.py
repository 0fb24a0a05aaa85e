"""Promise [18.1], and of [18.5] what stands in this file."""

import unittest

from everypipe.refusals import BadRowOf, BadRowText
from everypipe.rowtexts import read_row, row_fault, row_text
from helper import SIGNS, Maker, any_objects, changed, is_alike, is_new
from made_machines import MachineMaker, raised, telling
from test_machines import Example, RandomMaker
from test_orders import NO_FORMS

P, PIPE = (0,), (1,)
GREAT = 10 ** 19 - 1
LINES = [
    ("0 take 1 = a b", (P, "take", PIPE, "a b")), ("0 put 1 = ", (P, "put", PIPE, "")), ("0 put - = x", (P, "put", None, "x")), ("0 broken 1 = =", (P, "broken", PIPE, "=")),
    ("0 heard 1", (P, "heard", PIPE, None)), ("0 heard -", (P, "heard", None, None)), ("0 drop 1 put", (P, "drop", (PIPE, "put"), None)), ("0 drop 1.2 take", (P, "drop", ((1, 2), "take"), None)),
    ("0 read /a 0.1 = u", (P, "read", ("a", (0, 1)), "u")), ("0 read - -1.0 = u", (P, "read", (None, (-1, 0)), "u")), ("0 done /a/b 0.1.2", (P, "done", ("a/b", (0, 1, 2)), None)),
    ("0 done - 3.0", (P, "done", (None, (3, 0)), None)), ("0 read / -1.12 = ", (P, "read", ("", (-1, 12)), "")), ("0 write /a = -", (P, "write", "a", "-")), ("0 cut /a", (P, "cut", "a", None)),
    ("0 make / a", (P, "make", "", "a")), ("0 make /d/e a1", (P, "make", "d/e", "a1")), ("0 list /d a b", (P, "list", "d", ["a", "b"])), ("0 list /d -", (P, "list", "d", None)),
    ("0 list /", (P, "list", "", [])), ("0 list / b a a", (P, "list", "", ["b", "a", "a"])), ("0 find /a file", (P, "find", "a", "file")), ("0 find / directory", (P, "find", "", "directory")),
    ("0 find /abcdefgh none", (P, "find", "abcdefgh", None)), ("0 start 0.0 0.1 with 0.0", (P, "start", ((0, 0), (0, 1)), ((0, 0),))), ("0 start", (P, "start", (), ())),
    ("0 start 0.0", (P, "start", ((0, 0),), ())), ("0 start with 0.0 0.1", (P, "start", (), ((0, 0), (0, 1)))), ("0 start 7 7 with 8 8", (P, "start", ((7,), (7,)), ((8,), (8,)))),
    ("0 become 1 put 2 take", (P, "become", ((PIPE, "put"), ((2,), "take")), None)), ("0 become 2 put 1 put", (P, "become", (((2,), "put"), (PIPE, "put")), None)), ("0 become", (P, "become", (), None)),
    ("0 wait 0.0", (P, "wait", (0, 0), None)), ("0 ask 0.0 7", (P, "ask", (0, 0), 7)), ("0 ask 5 255", (P, "ask", (5,), 255)), ("0 signal 0.1 int", (P, "signal", (0, 1), "int")),
    ("0 signal 0.1 kill", (P, "signal", (0, 1), "kill")), ("0 trap int", (P, "trap", "int", None)), ("0 trap term", (P, "trap", "term", None)), ("0 over 0", (P, "over", None, 0)),
    ("0 over 7 by 0.1", (P, "over", (0, 1), 7)), ("10.0.20 over 255", ((10, 0, 20), "over", None, 255)), (f"{GREAT} wait {GREAT}.0", ((GREAT,), "wait", (GREAT, 0), None)),
    ("0 put 1 = " + SIGNS[:60], (P, "put", PIPE, SIGNS[:60])), ("0 put 1 =  ", (P, "put", PIPE, " ")),
]


class Net:
    """The texts of rows as a second reader has them: places, with moves by a sign or by none; from each one the end can be come to."""

    def __init__(self):
        self.free, self.by_sign = {}, {}
        self.many = 1
        self.begin = 0
        end = self.row(0)
        self.free.setdefault(end, []).append(0)

    def place(self):
        self.many += 1
        return self.many - 1

    def sign(self, at, signs):
        end = self.place()
        self.by_sign.setdefault(at, []).append((signs, end))
        return end

    def text(self, at, text):
        for sign in text:
            at = self.sign(at, sign)
        return at

    def either(self, at, *ways):
        end = self.place()
        for way in ways:
            self.free.setdefault(way(at), []).append(end)
        return end

    def perhaps(self, at, way):
        return self.either(at, lambda here: here, way)

    def often(self, at, way):
        loop = self.place()
        self.free.setdefault(at, []).append(loop)
        self.free.setdefault(way(loop), []).append(loop)
        return self.perhaps(loop, lambda here: here)

    def some(self, at, signs, most):
        end = self.place()
        for _ in range(most):
            self.free.setdefault(at, []).append(end)
            at = self.sign(at, signs)
        self.free.setdefault(at, []).append(end)
        return end

    def number(self, at):
        return self.either(at, lambda here: self.text(here, "0"), lambda here: self.some(self.sign(here, "123456789"), "0123456789", 18))

    def more(self, at):
        return self.often(at, lambda here: self.number(self.text(here, ".")))

    def name(self, at):
        return self.more(self.number(at))

    def handle(self, at):
        return self.either(at, lambda here: self.number(self.text(here, "-1.")), lambda here: self.more(self.number(self.text(self.number(here), "."))))

    def file_name(self, at):
        return self.some(self.sign(at, "abcdefghijklmnopqrstuvwxyz"), "abcdefghijklmnopqrstuvwxyz0123456789", 7)

    def path(self, at):
        names = lambda here: self.often(self.file_name(here), lambda there: self.file_name(self.text(there, "/")))
        return self.perhaps(self.text(at, "/"), names)

    def line(self, at):
        return self.some(self.text(at, " = "), SIGNS, 60)

    def words(self, at, *words):
        return self.either(at, *[lambda here, word=word: self.text(here, word) for word in words])

    def status(self, at):
        return self.words(at, *[str(number) for number in range(256)])

    def or_dash(self, at, way):
        return self.either(at, lambda here: self.text(here, "-"), way)

    def blank(self, at):
        return self.text(at, " ")

    def side(self, at):
        return self.words(at, "take", "put")

    def row(self, at):
        at = self.blank(self.name(at))
        word = lambda text: lambda here: self.text(here, text)
        b = self.blank
        names = lambda here: self.often(here, lambda there: self.name(b(there)))
        file_names = lambda here: self.often(here, lambda there: self.file_name(b(there)))
        kinds = [
            lambda h: self.line(self.name(b(word("take")(h)))), lambda h: self.line(self.or_dash(b(word("put")(h)), self.name)), lambda h: self.line(self.name(b(word("broken")(h)))),
            lambda h: self.or_dash(b(word("heard")(h)), self.name), lambda h: self.side(b(self.name(b(word("drop")(h))))),
            lambda h: self.line(self.handle(b(self.or_dash(b(word("read")(h)), self.path)))), lambda h: self.handle(b(self.or_dash(b(word("done")(h)), self.path))),
            lambda h: self.line(self.path(b(word("write")(h)))), lambda h: self.path(b(word("cut")(h))), lambda h: self.file_name(b(self.path(b(word("make")(h))))),
            lambda h: self.either(self.path(b(word("list")(h))), lambda here: self.text(here, " -"), file_names),
            lambda h: self.words(b(self.path(b(word("find")(h)))), "file", "directory", "none"),
            lambda h: self.perhaps(names(word("start")(h)), lambda here: names(self.name(b(self.text(here, " with"))))),
            lambda h: self.often(word("become")(h), lambda here: self.side(b(self.name(b(here))))), lambda h: self.name(b(word("wait")(h))),
            lambda h: self.status(b(self.name(b(word("ask")(h))))), lambda h: self.words(b(self.name(b(word("signal")(h)))), "int", "kill", "term"),
            lambda h: self.words(b(word("trap")(h)), "int", "term"), lambda h: self.perhaps(self.status(b(word("over")(h))), lambda here: self.name(self.text(here, " by "))),
        ]
        return self.text(self.either(at, *kinds), "\n")

    def spread(self, places):
        found, waiting = set(places), list(places)
        while waiting:
            for other in self.free.get(waiting.pop(), []):
                if other not in found:
                    found.add(other)
                    waiting.append(other)
        return found

    def fault(self, text):
        places = self.spread({0})
        for at, sign in enumerate(text):
            places = self.spread({end for place in places for signs, end in self.by_sign.get(place, []) if sign in signs})
            if not places:
                return self.at(text, at)
        return None if 0 in places else self.at(text, len(text))

    def at(self, text, at):
        lines = (text[:at] + "x").split("\n")
        return (len(lines), len(lines[-1]))


NET = Net()


class Texts(unittest.TestCase):
    def test_lines(self):
        for line, deed in LINES:
            self.assertEqual(row_text([deed]), line + "\n")
            self.assertEqual(row_text(row=changed([deed])), line + "\n")
            self.assertTrue(is_alike(read_row(line + "\n"), [deed]), line)
            self.assertIsNone(row_fault(line + "\n"))
            self.assertIsNone(NET.fault(line + "\n"))
        whole = "".join(line + "\n" for line, _ in LINES)
        self.assertEqual(row_text([deed for _, deed in LINES]), whole)
        self.assertTrue(is_alike(read_row(text=whole), [deed for _, deed in LINES]))
        self.assertTrue(is_new(read_row(whole)))
        self.assertEqual((row_text([]), read_row(""), row_fault("")), ("", [], None))

    def test_example(self):
        row = Example().machine().run([], 9)
        text = "0 put 0 = a\n1 take 0 = a\n0 put 0 = b\n1 over 7\n0 over 0\n"
        self.assertEqual(row_text(row), text)
        self.assertTrue(is_alike(read_row(text), row))
        self.assertTrue(is_alike(row_fault(text=text[:-1]), (5, 9)))

    def test_faults(self):
        for text, told in [
            ("0", (1, 2)), ("00", (1, 2)), ("a", (1, 1)), (" ", (1, 1)), ("\n", (1, 1)), ("-1", (1, 1)), ("0.", (1, 3)), ("0. ", (1, 3)), ("0 ", (1, 3)), ("0  ", (1, 3)), ("0 w", (1, 4)),
            ("0 wx", (1, 4)), ("0 takes", (1, 7)), ("0 take -", (1, 8)), ("0 take 1 =", (1, 11)), ("0 take 1 =x", (1, 11)), ("0 take 1 = x", (1, 13)), ("0 take 1  = x", (1, 10)),
            ("0 broken - = a", (1, 10)), ("0 heard 1 \n", (1, 10)), ("0 heard -1", (1, 10)), ("0 drop 1 puts", (1, 13)), ("0 drop -", (1, 8)), ("0 read /a 0 = x", (1, 12)),
            ("0 read /a -1.0.0 = x", (1, 15)), ("0 read /a -2", (1, 12)), ("0 read /a - = x", (1, 12)), ("0 read a", (1, 8)), ("0 read /a/ 0.0", (1, 11)), ("0 read /A", (1, 9)),
            ("0 write /abcdefghi", (1, 18)), ("0 write - = a", (1, 9)), ("0 cut /a b", (1, 9)), ("0 make / \n", (1, 10)), ("0 make /a /b", (1, 11)), ("0 make /a abcdefghi", (1, 19)),
            ("0 list /d - a", (1, 12)), ("0 list /d a -", (1, 13)), ("0 list /d \n", (1, 11)), ("0 find /a dir\n", (1, 14)), ("0 find /a nothing", (1, 13)), ("0 start \n", (1, 9)),
            ("0 start with\n", (1, 13)), ("0 start with \n", (1, 14)), ("0 start with with", (1, 14)), ("0 start 0 with 1 with", (1, 18)), ("0 become 1\n", (1, 11)), ("0 become 1 put take", (1, 16)),
            ("0 ask 0 256", (1, 11)), ("0 ask 0 300", (1, 11)), ("0 ask 0 07", (1, 10)), ("0 ask 0", (1, 8)), ("0 ask 0\n", (1, 8)), ("0 signal 0 hup", (1, 12)), ("0 signal 0 terms", (1, 16)),
            ("0 trap kill", (1, 8)), ("0 trap i", (1, 9)), ("0 over 7 b", (1, 11)), ("0 over 7 by", (1, 12)), ("0 over 7 by -", (1, 13)), ("0 over -", (1, 8)), ("1" + "0" * 19, (1, 20)),
            ("0 put 1 = " + "x" * 61, (1, 71)), ("0 put 1 = a%", (1, 12)), ("0 put 1 = a\u00e9", (1, 12)), ("0 put 1 = a\r\n", (1, 12)), ("0 over 0\n\n", (2, 1)), ("0 over 0\n0 over 0", (2, 9)),
            ("0 over 0\n ", (2, 1)), ("0 over 0\n0 over 0\n1 wait", (3, 7)),
        ]:
            self.assertTrue(is_alike(row_fault(text), told), (text, row_fault(text)))
            self.assertEqual(NET.fault(text), told)
            caught = raised(BadRowText, read_row, text)
            self.assertEqual((caught.line, caught.sign), told)

    def test_no_strings(self):
        for thing in any_objects():
            if not isinstance(thing, str):
                self.assertTrue(is_alike(row_fault(thing), (0, 0)))
                caught = raised(BadRowText, read_row, thing)
                self.assertEqual((caught.line, caught.sign), (0, 0))

    def test_as_a_second_reader(self):
        maker = Maker(151)
        right = wrong = 0
        for _ in range(3000):
            line, _ = maker.pick(LINES)
            text = maker.pick(["", "0 over 0\n"]) + line + "\n" + maker.pick(["", "", maker.pick(LINES)[0] + "\n"])
            for _ in range(maker.random.randint(0, 2)):
                at = maker.random.randrange(len(text) + 1)
                text = maker.pick([text[:at], text[:at] + maker.pick("0123456789.-= /ab\nwt%") + text[at:], text[:at] + text[at + 1:], text[:at] + maker.pick("019.- =/a\n") + text[at + 1:]])
            self.assertEqual(row_fault(text), NET.fault(text), text)
            if row_fault(text) is None:
                right += 1
                self.assertEqual(row_text(read_row(text)), text)
            else:
                wrong += 1
        self.assertGreater(min(right, wrong), 500)

    def test_all_cut_short(self):
        for line, _ in LINES:
            for at in range(1, len(line) + 1):
                fault = row_fault((line + "\n")[:at])
                self.assertEqual(fault, (1, at + 1), line[:at])

    def test_all_short_texts_begun(self):
        for begin in ["", "0 ", "0 over 2", "0 over 25", "0 read ", "0 start ", "0 list /d ", "0 become 1", "0 make /", "0 done - -", "0 wait 10"]:
            for one in "019.- =/awtb\n":
                for other in "059.- =/aiy\n":
                    text = begin + one + other
                    self.assertEqual(row_fault(text), NET.fault(text), text)

    def test_rows_of_machines(self):
        for maker in (RandomMaker(152), MachineMaker(153)):
            for _ in range(150):
                machine = maker.machine()
                machine.run(maker.schedule(), 60)
                row = machine.deeds()
                self.assertTrue(is_alike(read_row(row_text(row)), row))

    def test_wrong(self):
        for thing in any_objects():
            if not isinstance(thing, (list, tuple)):
                self.assertEqual(raised(BadRowOf, row_text, thing).index, 0)
            self.assertEqual(raised(BadRowOf, row_text, [LINES[0][1], thing, None]).index, 1)
        for deed in NO_FORMS + [((GREAT + 1,), "over", None, 0), (P, "wait", (GREAT + 1,), None), (P, "heard", (0, GREAT + 1), None), (P, "done", ("f", (GREAT + 1, 0)), None),
                                (P, "done", ("f", (-1, GREAT + 1)), None), (P, "start", ((GREAT + 1,),), ()), (P, "start", (), ((0,), (GREAT + 1,))), (P, "become", (((GREAT + 1,), "put"),), None),
                                (P, "drop", ((GREAT + 1,), "put"), None), (P, "over", (GREAT + 1,), 0), (P, "trap", "kill", None)]:
            self.assertEqual(raised(BadRowOf, row_text, [LINES[0][1], deed]).index, 1, deed)
        self.assertEqual(len(telling([])([])), 2)


if __name__ == "__main__":
    unittest.main()
