"""Promise [6.3], what [6.1] says that rows do, and of [6.8] what actor_of tells."""

import unittest

from everypipe.actors import actor_of, stand
from everypipe.errors import BadAnswers
from everypipe.programs import Program
from helper import Maker, any_objects, changed, is_alike, is_new

INT, KILL, TERM = ("sign", "int"), ("sign", "kill"), ("sign", "term")
EXAMPLE = [("take", 0, "a", 3), ("put", 1, [("line", "a"), ("text", "x")]), ("jump", 0)]


def wish(rows, answers=()):
    return actor_of(Program(rows))(list(answers))


def put(*parts):
    return ("put", 1, list(parts))


def texts(*strings):
    """Rows that keep some lines."""
    return [("keep", [("text", string)]) for string in strings]


def second(rows, answers):
    """The wish behind answers, and the stand, told by another worker; None for answers that cannot be."""
    lines, counters, shelf = dict.fromkeys("abcdefgh", ""), dict.fromkeys("ijklmn", 0), []
    answers, at, many, heard = list(answers), 0, 0, None

    def line_of(parts):
        told = {"text": lambda thing: thing, "line": lines.get, "count": lambda name: "%d" % counters[name]}
        return "".join(told[word](thing) for word, thing in parts)[:60]

    def number(thing):
        return counters.get(thing, thing)

    while True:
        row = rows[at] if at < len(rows) else ("end", 0)
        if many == 2000:
            row = ("end", 254)
        word = row[0]
        if word in ("take", "put", "close", "end"):
            now = {"take": row[:2], "close": row[:2], "end": ("over", row[1])}.get(word) or ("put", row[1], line_of(row[2]))
            while answers and answers[0][:1] == ("sign",) if answers and isinstance(answers[0], tuple) else False:
                heard = answers.pop(0)[1]
                now, word = ("over", {"int": 130, "kill": 137, "term": 143}[heard]), "end"
            if not answers:
                return now, (lines, counters, shelf)
            if word == "end" or (answers[0] is not None and word != "take"):
                return None
            answer = answers.pop(0)
            many = 0
            if word == "take":
                at = row[3] if answer is None else at + 1
                lines[row[2]] = lines[row[2]] if answer is None else answer
            else:
                at += 1
            continue
        many += 1
        goes_on = True
        if word == "set":
            lines[row[1]] = line_of(row[2])
        elif word == "field":
            lines[row[1]] = ([piece for piece in lines[row[2]].split(" ") if piece] + [""] * row[3])[row[3] - 1]
        elif word == "match":
            goes_on = row[1] in lines[row[2]]
        elif word == "same":
            goes_on = lines[row[1]] == lines[row[2]]
        elif word == "count":
            counters[row[1]] += number(row[2])
        elif word == "less":
            goes_on = counters[row[1]] < number(row[2])
        elif word == "jump":
            goes_on = False
        elif word == "keep":
            shelf[len(shelf):] = [line_of(row[1])] if len(shelf) < 200 else []
        else:
            goes_on = bool(shelf)
            if shelf:
                lines[row[1]] = shelf[0] if word == "first" else sorted(shelf)[0]
                shelf.remove(lines[row[1]])
        at = at + 1 if goes_on else row[-1]


class Actors(unittest.TestCase):
    def test_example(self):
        self.assertTrue(is_alike(wish(EXAMPLE, ["u", None]), ("take", 0)))
        self.assertTrue(is_alike(wish(EXAMPLE), ("take", 0)))
        self.assertTrue(is_alike(wish(EXAMPLE, ["u"]), ("put", 1, "ux")))
        self.assertTrue(is_alike(wish(EXAMPLE, ["u", None, None]), ("over", 0)))
        self.assertTrue(is_alike(actor_of(program=Program(changed(EXAMPLE)))(("u", None, "v")), ("put", 1, "vx")))

    def test_outer_rows(self):
        self.assertTrue(is_alike(wish([]), ("over", 0)))
        self.assertTrue(is_alike(wish([("end", 255)]), ("over", 255)))
        self.assertTrue(is_alike(wish([("close", 31)]), ("close", 31)))
        self.assertTrue(is_alike(wish([("close", 31)], [None]), ("over", 0)))
        self.assertTrue(is_alike(wish([("put", 2, [])]), ("put", 2, "")))
        self.assertTrue(is_alike(wish([("take", 5, "a", 1), ("end", 1)], [None]), ("over", 1)))
        self.assertTrue(is_alike(wish([("take", 5, "a", 2), ("end", 1)], [None]), ("over", 0)))
        self.assertTrue(is_alike(wish([("take", 5, "a", 2), ("end", 1)], [""]), ("over", 1)))
        rows = [("take", 0, "a", 2), ("take", 3, "a", 2), put(("text", "<"), ("line", "a"), ("line", "b"), ("text", ">"))]
        self.assertEqual(wish(rows, ["u", None]), ("put", 1, "<u>"))
        self.assertEqual(wish(rows, ["u", "v"]), ("put", 1, "<v>"))

    def test_parts(self):
        rows = [("count", "i", -12), ("count", "j", 5), ("set", "a", [("text", "x"), ("count", "i"), ("count", "j"), ("count", "k")]),
                ("set", "b", [("line", "a"), ("text", " "), ("line", "a")]), put(("line", "b"), ("text", "!"))]
        self.assertEqual(wish(rows), ("put", 1, "x-1250 x-1250!"))
        self.assertEqual(wish([("set", "a", [("text", "x" * 59), ("count", "i"), ("text", "y")]), put(("line", "a"), ("text", "z"))]),
                         ("put", 1, "x" * 59 + "0"))
        self.assertEqual(wish([put(("text", "x" * 60), ("text", "y"))]), ("put", 1, "x" * 60))
        self.assertEqual(stand(Program([("keep", [("text", "x" * 40), ("text", "y" * 40)])]), [])[2], ["x" * 40 + "y" * 20])

    def test_great_counters(self):
        rows = [("count", "i", 7), ("count", "i", "i"), ("count", "j", 1), ("less", "j", 400, 5), ("jump", 1), put(("count", "i"))]
        self.assertEqual(wish(rows), ("put", 1, str(7 * 2 ** 400)[:60]))
        rows[0] = ("count", "i", -7)
        self.assertEqual(wish(rows), ("put", 1, str(-7 * 2 ** 400)[:60]))
        self.assertEqual(stand(Program(rows), [])[1]["i"], -7 * 2 ** 400)
        rows[5:] = [("count", "j", -400), ("close", 3), put(("count", "i")), ("jump", 1)]
        number = -7 * 2 ** (400 * 50)
        while abs(number) >= 10 ** 100:
            number = number // 10 if number > 0 else -(-number // 10)
        self.assertEqual(wish(rows, [None] * 99), ("put", 1, str(number)[:60]))

    def test_field(self):
        def field(line, k):
            return stand(Program([("set", "a", [("text", line)]), ("set", "b", [("text", "old")]), ("field", "b", "a", k)]), [])[0]["b"]

        for line, k, told in [("a bc  d", 1, "a"), ("a bc  d", 2, "bc"), ("a bc  d", 3, "d"), ("a bc  d", 4, ""), ("", 1, ""),
                              ("  ", 1, ""), (" x ", 1, "x"), (" x ", 2, ""), ("x", 100, "")]:
            self.assertEqual(field(line, k), told)
        self.assertEqual(stand(Program([("set", "a", [("text", "p q")]), ("field", "a", "a", 2)]), [])[0]["a"], "q")

    def test_tests(self):
        def goes_on(test, *ahead):
            rows = [*ahead, test(len(ahead) + 2), ("end", 1), ("end", 2)]
            return wish(rows)[1] == 1

        line = ("set", "a", [("text", "xaab")])
        for text, told in [("a", True), ("a*", True), ("b|c", True), ("ab", True), ("xb", False), ("c", False), ("()", True),
                           ("[]", False), ("aaa", False), ("x.*b", True), (".....", False), ("....", True), ("b", True), ("x", True)]:
            self.assertEqual(goes_on(lambda at: ("match", text, "a", at), line), told, text)
        self.assertTrue(goes_on(lambda at: ("match", "()", "a", at)))
        self.assertFalse(goes_on(lambda at: ("match", ".", "a", at)))
        self.assertFalse(goes_on(lambda at: ("same", "a", "b", at), line))
        self.assertTrue(goes_on(lambda at: ("same", "b", "c", at), line))
        self.assertTrue(goes_on(lambda at: ("less", "i", 1, at)))
        self.assertFalse(goes_on(lambda at: ("less", "i", 0, at)))
        self.assertFalse(goes_on(lambda at: ("less", "i", -1, at)))
        self.assertTrue(goes_on(lambda at: ("less", "i", "j", at), ("count", "j", 1)))
        self.assertFalse(goes_on(lambda at: ("less", "i", "j", at), ("count", "j", -1)))
        self.assertTrue(goes_on(lambda at: ("less", "i", -1, at), ("count", "i", -2)))
        self.assertFalse(goes_on(lambda at: ("jump", at)))
        self.assertEqual(wish([("jump", 1)]), ("over", 0))

    def test_shelf(self):
        for word, told in [("first", ["b", "a", "B", "a"]), ("least", ["B", "a", "a", "b"])]:
            rows = [*texts("b", "a", "B", "a"), (word, "a", 6), put(("line", "a")), ("jump", 4)]
            rows[4] = (word, "a", 7)
            answers = []
            for line in told:
                self.assertEqual(wish(rows, answers), ("put", 1, line))
                answers.append(None)
            self.assertEqual(wish(rows, answers), ("over", 0))
            self.assertEqual(stand(Program(rows), answers)[0]["a"], told[-1])
            self.assertEqual(wish([(word, "a", 2), ("end", 1), ("end", 2)]), ("over", 2))
        rows = [*texts("b", "a", "c", "a"), ("least", "h", 0), ("end", 0)]
        self.assertEqual(stand(Program(rows), [])[2], ["b", "c", "a"])

    def test_full_shelf(self):
        rows = [("keep", [("count", "i")]), ("count", "i", 1), ("less", "i", 250, 4), ("jump", 0), ("first", "a", 5), ("close", 1),
                ("keep", [("text", "new")]), ("keep", [("text", "lost")])]
        shelf = stand(Program(rows), [])[2]
        self.assertEqual(shelf, [str(number) for number in range(1, 200)])
        self.assertEqual(stand(Program(rows), [None])[2], [*shelf, "new"])

    def test_two_thousand_inner_rows(self):
        def inner(many):
            """A program of rows that go through so many inner rows behind one another, then one puts."""
            rows = [("count", "j", 1)] * (many % 3)
            at = len(rows)
            loops = many // 3
            return [*rows, ("count", "i", 1), ("less", "i", loops, at + 3), ("jump", at), *self.filling(many, loops), put()]

        for many, told in [(1998, ("put", 1, "")), (1999, ("put", 1, "")), (2000, ("over", 254)), (2001, ("over", 254))]:
            self.assertEqual(wish(inner(many)), told, many)
            self.assertEqual(wish(inner(many)[:-1]), ("over", 0) if many < 2000 else ("over", 254), many)
            self.assertEqual(wish([*inner(many)[:-1], ("end", 7)]), ("over", 7) if many < 2000 else ("over", 254), many)
        self.assertEqual(wish([("jump", 0)]), ("over", 254))
        self.assertEqual(wish([("close", 0), ("jump", 1)]), ("close", 0))
        self.assertEqual(wish([("close", 0), ("jump", 1)], [None]), ("over", 254))
        self.assertEqual(wish(inner(1999) + inner(1999)[-1:], [None, None]), ("over", 0))
        counters = stand(Program([("count", "i", 1), ("jump", 0)]), [])[1]
        self.assertEqual(counters["i"], 1000)
        counters = stand(Program([("count", "i", 1), ("count", "j", 1), ("jump", 0)]), [])[1]
        self.assertEqual((counters["i"], counters["j"]), (667, 667))
        rows = [("take", 0, "a", 4), ("count", "i", 1), ("less", "i", 600, 0), ("jump", 1)]
        self.assertEqual(wish(rows, ["u"]), ("take", 0))
        rows = [("take", 0, "a", 4), ("count", "i", 1), ("less", "i", 700, 0), ("jump", 1)]
        self.assertEqual(wish(rows, ["u"]), ("over", 254))

    def filling(self, many, loops):
        """The rows behind a loop of three rows, its last time of two, for so many inner rows in all."""
        return [("count", "k", 1)] * (many - many % 3 - (3 * loops - 1))

    def test_signs(self):
        for sign, status in [(INT, 130), (KILL, 137), (TERM, 143), (list(INT), 130)]:
            self.assertTrue(is_alike(wish(EXAMPLE, [sign]), ("over", status)))
            self.assertEqual(wish(EXAMPLE, ["u", sign]), ("over", status))
            self.assertEqual(wish(EXAMPLE, ["u", None, sign]), ("over", status))
            self.assertEqual(wish(EXAMPLE, [None, sign]), ("over", status))
            self.assertEqual(wish(EXAMPLE, ["u", TERM, sign]), ("over", status))
            self.assertEqual(wish([("end", 3)], [sign]), ("over", status))
            self.assertEqual(wish([("jump", 0)], [INT, sign]), ("over", status))
            self.assertEqual(stand(Program(EXAMPLE), ["u", sign])[0]["a"], "u")

    def test_bad_answers(self):
        rows = [("take", 0, "a", 1), ("put", 1, []), ("close", 0), ("end", 3)]
        program = Program(rows)
        for answers, index in [
                ([1], 0), (["%"], 0), (["x" * 61], 0), ([["u"]], 0), ([True], 0), ([("sign", "hup")], 0), ([("sign",)], 0),
                ([("sign", "int", 0)], 0), (["u", "v"], 1), (["u", 0], 1), (["u", None, "v"], 2), (["u", None, False], 2),
                (["u", None, None, None], 3), (["u", None, None, "x"], 3), (["u", None, None, INT, None], 4), ([INT, "u"], 1),
                ([INT, None], 1), ([INT, TERM, "u"], 2), (["u", "v", "%"], 1), ([{}], 0), ([("sing", "int")], 0), ([("sign", None)], 0)]:
            for call in (lambda: actor_of(program)(answers), lambda: stand(program, answers)):
                with self.assertRaises(BadAnswers) as caught:
                    call()
                self.assertEqual(caught.exception.index, index, answers)
        for thing in [None, 1, "a", {}, True, ""]:
            for call in (lambda: actor_of(program)(thing), lambda: stand(program=program, answers=thing)):
                with self.assertRaises(BadAnswers) as caught:
                    call()
                self.assertEqual(caught.exception.index, 0)
        for thing in any_objects():
            if not (thing is None or thing in ("", "a", "ab", "a b") and isinstance(thing, str)):
                with self.assertRaises(BadAnswers):
                    actor_of(program)([thing])

    def test_stand(self):
        start = ({name: "" for name in "abcdefgh"}, {name: 0 for name in "ijklmn"}, [])
        self.assertTrue(is_alike(stand(Program([]), []), start))
        rows = [("count", "n", -3), ("keep", [("text", "k")]), ("take", 0, "h", 0), ("set", "a", [("line", "h"), ("count", "n")])]
        program = Program(rows)
        start[1]["n"] = -3
        start[2].append("k")
        self.assertTrue(is_alike(stand(program, []), start))
        start[0].update({"h": "u", "a": "u-3"})
        self.assertTrue(is_alike(stand(program, ("u",)), start))
        self.assertTrue(is_new(stand(program, ["u"]), stand(program, ["u"])))

    def test_equal_actors(self):
        one, like, other = Program(EXAMPLE), Program(changed(EXAMPLE)), Program([("end", 0)])
        self.assertTrue(actor_of(one) == actor_of(like))
        self.assertFalse(actor_of(one) != actor_of(like))
        self.assertFalse(actor_of(one) == actor_of(other))
        self.assertTrue(actor_of(one) != actor_of(other))
        for thing in [*any_objects(), one, EXAMPLE]:
            self.assertFalse(actor_of(one) == thing)
        self.assertTrue(callable(actor_of(one)))

    def test_it_leaves_answers(self):
        answers = ["u", None, list(INT)]
        actor = actor_of(Program(EXAMPLE))
        self.assertEqual(actor(answers), actor(answers))
        self.assertEqual(answers, ["u", None, ["sign", "int"]])

    def test_made_up_programs(self):
        maker = Maker(31)
        for _ in range(400):
            rows = self.made_up(maker)
            program = Program(rows)
            answers = []
            while len(answers) < 12:
                told = second(rows, answers)
                self.assertTrue(is_alike(actor_of(program)(list(answers)), told[0]), (rows, answers))
                self.assertTrue(is_alike(stand(program, answers), told[1]), (rows, answers))
                if told[0][0] == "over":
                    break
                answers.append(maker.pick(["", "a", "b a", "ab ba", None]) if told[0][0] == "take" else None)
                if maker.chance(4):
                    answers.append(maker.pick([INT, TERM]))
            with self.assertRaises(BadAnswers) as caught:
                actor_of(program)([*answers, 7])
            self.assertEqual(caught.exception.index, len(answers))

    def made_up(self, maker):
        many = maker.random.randint(1, 9)

        def parts():
            return maker.some(lambda: maker.pick([("text", maker.pick(["", "a", " ", "b"])), ("line", maker.pick("abc")),
                                                  ("count", maker.pick("ij"))]), 0, 3)

        def row():
            line, counter, at = maker.pick("abc"), maker.pick("ij"), maker.random.randint(0, many)
            more = maker.pick([maker.pick("ij"), maker.random.randint(-3, 3)])
            return maker.pick([
                ("take", 0, line, at), ("take", 0, line, at), ("put", 1, parts()), ("put", 1, parts()), ("close", 2), ("end", 5),
                ("set", line, parts()), ("field", line, maker.pick("abc"), maker.random.randint(1, 3)),
                ("match", maker.pick("ab"), line, at), ("same", line, maker.pick("abc"), at), ("count", counter, more),
                ("less", counter, more, at), ("jump", at), ("keep", parts()), ("first", line, at), ("least", line, at)])

        return [row() for _ in range(many)]


if __name__ == "__main__":
    unittest.main()
