"""The shell's wishes are those of a second shell: promises [10.1] to [10.7], [10.9], [12.3], [12.4], over many scripts."""

import unittest

from everypipe.machines import Machine
from everypipe.shellreading import read_script, script_fault
from everypipe.shells import shell_actor
from everypipe.shellwriting import script_text
from helper import Maker
from second_shell import SecondShell

LEADS = {0: ("lines", ["l", "m n", "", "o"]), 1: ("file", "out", "add"), 2: ("file", "err", "add")}
TREE = {"f": ["u", "v w"], "d": {"e": ["x"]}}


class ScriptMaker(Maker):
    """Scripts of all commands, most of which come to something."""

    def inner(self):
        return self.pick(["say o", "cat", "false", "say o; say p", "read x; say $x", "exit 5", "say $?; x=3", "seq 1 2 | cat", "trap 'say k' exit", "is b && say $1 &\nwait"])

    def word(self):
        return self.pick(["a", "b", "f", "g", "$x", "\"$x\"", "$y", "$1", "$@", "$#", "$?", "'a b'", "*", "d/*", "${x:-c}", "${#x}", "$(LIST)", "\"$(LIST)\"",
                          "$((x + 1))", "$((1 / 0))", "A", "''", "3", "-1"]).replace("LIST", self.inner())

    def turn(self):
        return self.pick(["> f", ">> g", "< f", "< d/e", "<: a", "<: \"$x\"", "3>&1", "2>&1", ">&3", "1>&-", "0>&-", "3> h", "4< nofile", "> d", "> $1", "> $(LIST)",
                          ">&2"]).replace("LIST", self.inner())

    def simple(self):
        return self.pick([
            "say " + self.word(), "say " + self.word() + " " + self.word(), "read x", "read x y", "is " + self.word(), "is $x = " + self.word(), "is $x less 3", "is file f",
            "leave", "leave 2", "next", "next 2", "return", "return 3", "exit", "exit 4", "shift", "forget x", "strict on", "strict off", "wait", "wait 1", "wait 2",
            "trap 'say t; read y' int", "trap 'x=t; leave' term", "trap '' int", "trap - int", "trap 'say e $?; exit 9' exit", "trap 'exit 8' term", "trap 'say i; say j' int",
            "trap 'say e' exit", "kill int 1", "kill kill 1", "kill term 2", "cat", "head 1", "seq 1 2", "true", "false", "yes q", "wc", "tee 3", "grep " + self.word(), "nosuch",
            "x=" + self.word(), "x=" + self.word() + " y=$x", "x=z f " + self.word(), "f " + self.word(), "g", "x=7 read y", self.word() + " " + self.word(), "y=$x cat",
            "> f", "x=$(cat) > g", "say " + "a" * 61, "'say' a\\ b"]) + (" " + self.turn() if self.chance(20) else "")

    def command(self, depth):
        if depth == 0 or self.chance(45):
            return self.simple()
        turn = " " + self.turn() if self.chance(25) else ""
        return self.pick([
            lambda: "{ " + self.list(depth - 1) + "; }" + turn, lambda: "( " + self.list(depth - 1) + " )" + turn,
            lambda: "if " + self.list(depth - 1) + "; then " + self.list(depth - 1) + self.pick(["", "; else " + self.list(depth - 1)]) + "; end" + turn,
            lambda: "while " + self.list(depth - 1) + "; do " + self.list(depth - 1) + "; end" + turn,
            lambda: "for x in " + self.word() + " " + self.word() + "; do " + self.list(depth - 1) + "; end" + turn,
            lambda: "case " + self.word() + "; when " + self.word() + " | b; do " + self.list(depth - 1) + "; when *; do " + self.list(depth - 1) + "; end" + turn,
            lambda: "def " + self.pick("fg") + " { " + self.list(depth - 1) + "; }",
        ])()

    def row(self, depth):
        text = self.command(depth)
        for _ in range(self.random.randint(0, 2) if self.chance(25) else 0):
            text += " | " + self.command(depth)
        return ("! " if self.chance(10) else "") + text

    def list(self, depth):
        text = ""
        for _ in range(self.random.randint(1, 3)):
            text += self.row(depth)
            for _ in range(self.random.randint(0, 1) if self.chance(30) else 0):
                text += self.pick([" && ", " || "]) + self.row(depth)
            text += self.pick(["; "] * 6 + [" & "])
        return text.rstrip("; ") if not text.endswith("& ") else text + "say z"

    def script(self):
        while True:
            text = "def f { say $1 $x; read x; " + self.simple() + "; }; x=1; " + self.list(self.pick([1, 2, 3]))
            if script_fault(text) is None:
                return text


class Alike(unittest.TestCase):
    def told(self, wish, answers):
        """A wish without its actors, and these."""
        if wish[0] == "start":
            return ("start", [table for _, table in wish[1]], wish[2]), [actor for actor, _ in wish[1]]
        return (("become", wish[2]), [wish[1]]) if wish[0] == "become" else (wish, [])

    def answer(self, maker, wish):
        if maker.chance(7):
            return ("sign", maker.pick(["int", "term"]))
        return {"take": lambda: maker.pick(["p", "q r", None, None]), "ask": lambda: maker.pick([0, 0, 1, 141]),
                "open": lambda: "" if wish[-1] == "lines" else maker.pick(["", "", "", "lacks"]), "look": lambda: maker.pick(["file", None]),
                "list": lambda: maker.pick([["a", "b"], [], None])}.get(wish[0], lambda: None)()

    def check(self, maker, one, two, depth, text):
        answers = []
        for _ in range(maker.pick([6, 25])):
            wish, other = one(list(answers)), two(list(answers))
            told, actors = self.told(wish, answers)
            self.assertEqual(self.told(other, answers)[0], told, (text, answers))
            if depth:
                for actor, twin in zip(actors, self.told(other, answers)[1]):
                    if maker.chance(40):
                        self.check(maker, actor, twin, depth - 1, text)
            if wish[0] in ("over", "become") and maker.chance(60):
                return
            answers.append(("sign", "int") if wish[0] in ("over", "become") else self.answer(maker, wish))

    def test_wishes(self):
        maker = ScriptMaker(1)
        for _ in range(500):
            script = read_script(maker.script())
            arguments = maker.pick([[], ["p"], ["q r", ""]])
            self.check(maker, shell_actor(script, arguments), SecondShell(script, arguments).actor(), 2, script_text(script))

    def test_machines(self):
        maker = ScriptMaker(2)
        for _ in range(400):
            script = read_script(maker.script())
            signals = [((0,), maker.random.randrange(15), maker.pick(["int", "term"]))] if maker.chance(40) else []
            schedule = [maker.random.randrange(6) for _ in range(maker.random.randrange(60))]
            machines = [Machine(TREE, [(actor, LEADS)], {(): 1}, signals) for actor in (shell_actor(script, ["p"]), SecondShell(script, ["p"]).actor())]
            one, two = [machine.run(schedule, 150) for machine in machines]
            self.assertEqual(one, two, script_text(script))
            self.assertEqual(machines[0].files(), machines[1].files())


if __name__ == "__main__":
    unittest.main()
