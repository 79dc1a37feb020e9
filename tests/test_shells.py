import random
import unittest

from helper import DEEP, HUGE, MORE, ODD, STEPS
from rowsback.desks import Desk, nameless_desk
from rowsback.errors import RowError
from rowsback.rates import rates_at
from rowsback.shells import Shell
from rowsback.texts import poly_text, read_row

OTHERS = ("add", "put", "drop", "label", "unlabel", "undo", "redo", "row", "at", "rates", "poly")


def shell(*lines):
    """Return a shell to which these text lines were said."""
    made = Shell()
    for line in lines:
        made.say(line)
    return made


def desk_shell():
    """Return a shell with 2 inputs, the product of both, called "p", and their sum, called "s"."""
    return shell("new 2", "add in 0", "add in 1", "add * 1 2", "add + 1 2", "label p 3", "label s 4")


class ShellTest(unittest.TestCase):

    def check(self, made, *pairs):
        for line, told in pairs:
            found = made.say(line)
            self.assertEqual(found, told, line)
            self.assertIs(type(found), str)

    def test_examples(self):
        s = Shell()
        self.assertEqual([s.say("row"), s.say("new 1"), s.say("add in 0"), s.say("add * 1 1"), s.say("label f 2"), s.say("at 5"),
                          s.say("rates f 5"), s.say("poly f"), s.say("drop"), s.say("jump"), s.say("put 1 neg 1"), s.say("put -1 neg 0")],
                         ["no desk", "ok", "version 1", "version 2", "version 3", "f:25", "10", "1 x0^2", "no Unfit", "what",
                          "no BadRow", "no NoStep"])

    def test_no_desk_whatever_else_stands_in_the_line(self):
        s = Shell()
        for word in OTHERS:
            for rest in ("", " ", " 0", " nothing at all", " neg\n0", "  ", " " + "9" * 30, " -"):
                self.assertEqual(s.say(word + rest), "no desk")
        for line in ("", " ", "jump", "Row", "row\n", " row", "adds 0", "\nadd in 0", "none", "old 3"):
            self.assertEqual(s.say(line), "what")

    def test_a_first_new_that_is_none(self):
        s = Shell()
        for line in ("new", "new ", "new 9", "new -1", "new 1 2", "new  1", "new 1 ", "new x", "new 01", "new -0", "new 1\n", "new\n1",
                     "new +1", "new 1.0", "new 00", "new " + "1" * 22, "New 1", " new 1", "new one"):
            self.assertEqual([s.say(line), s.say("row"), s.say("undo")], ["what", "no desk", "no desk"])
        self.assertEqual([s.say("new 8"), s.say("row")], ["ok", "inputs 8\nset 0"])

    def test_each_new_desk(self):
        for inputs in range(9):
            s = Shell()
            self.check(s, (f"new {inputs}", "ok"), ("row", f"inputs {inputs}\nset 0"), ("undo", "no NothingDone"),
                       ("redo", "no NothingUndone"), ("at" + " 7" * inputs, "none"), ("rates a" + " 7" * inputs, "no NoName"),
                       ("poly a", "no NoName"), ("unlabel a", "no NoName"), ("drop", "no Unfit"), ("label a 0", "version 1"))

    def test_a_second_new_behind_edits(self):
        s = desk_shell()
        self.check(s, ("undo", "version 5"), ("new 9", "what"), ("new", "what"), ("redo", "version 6"), ("new 1", "ok"),
                   ("row", "inputs 1\nset 0"), ("undo", "no NothingDone"), ("redo", "no NothingUndone"), ("at 4", "none"),
                   ("add in 1", "no BadRow"), ("add in 0", "version 1"), ("new 1", "ok"), ("add neg 0", "version 1"))

    def test_add(self):
        s = shell("new 2")
        self.check(s, ("add in 1", "version 1"), ("add set -7", "version 2"), ("add neg 1", "version 3"), ("add + 0 3", "version 4"),
                   ("add - 4 4", "version 5"), ("add * 5 0", "version 6"),
                   ("row", "inputs 2\nset 0\nin 1\nset -7\nneg 1\n+ 0 3\n- 4 4\n* 5 0"))
        for line in ("add", "add ", "add in", "add in 0 1", "add + 1", "add + 1 2 3", "add plus 1 2", "add neg", "add neg x", "add IN 0",
                     "add  in 0", "add in  0", "add in 0 ", "add set 01", "add set -0", "add set 1\n", "add set\n1", "add set 1.5",
                     "add set +1", "add set " + "1" * 22, "add set -" + "1" * 22, "add set --1", "add set -", "add 0 in", "add row 0"):
            self.assertEqual(s.say(line), "what", line)
        for line in ("add in 2", "add in -1", "add neg 7", "add neg -1", "add + 0 7", "add set " + "1" * 21, "add set -" + "9" * 21,
                     "add * 100000 0", "add in " + "9" * 21):
            self.assertEqual(s.say(line), "no BadRow", line)
        self.check(s, ("add set 1" + "0" * 20, "version 7"), ("add set -1" + "0" * 20, "version 8"), ("add neg 8", "version 9"))

    def test_put(self):
        s = desk_shell()
        self.check(s, ("put 3 - 1 2", "version 7"), ("poly p", "-1 x1 + 1 x0"), ("put 3 + 1 3", "no BadRow"), ("put 5 in 0", "no NoStep"),
                   ("put -1 in 9", "no NoStep"), ("put " + "9" * 21 + " in 0", "no NoStep"), ("put 0 in 9", "no BadRow"),
                   ("put 0 set 5", "version 8"), ("put 4 neg 0", "version 9"), ("poly s", "-5"))
        for line in ("put", "put 0", "put in 0", "put x in 0", "put 0 in", "put 0 in 0 0", "put 00 in 0", "put  0 in 0", "put 0  in 0",
                     "put " + "9" * 22 + " in 0", "put 0 0 in", "put 0\nin 0", "put -0 in 0"):
            self.assertEqual(s.say(line), "what", line)

    def test_drop_undo_redo_and_row_have_no_numbers(self):
        s = desk_shell()
        for word in ("drop", "undo", "redo", "row"):
            for rest in (" ", " 0", " p", "\n", " \n"):
                self.assertEqual(s.say(word + rest), "what")
        self.check(s, ("drop", "no Unfit"), ("unlabel s", "version 7"), ("drop", "version 8"), ("undo", "version 7"), ("undo", "version 6"),
                   ("row", "inputs 2\nset 0\nin 0\nin 1\n* 1 2\n+ 1 2\nlabel p 3\nlabel s 4"), ("redo", "version 7"), ("redo", "version 8"),
                   ("redo", "no NothingUndone"), ("row", "inputs 2\nset 0\nin 0\nin 1\n* 1 2\nlabel p 3"))

    def test_names(self):
        s = desk_shell()
        for name in ("X", "", "toolongname", "a1", "p\n", "\n", "a-b", "7", "-", "P"):
            self.assertEqual([s.say(f"label {name} 3"), s.say(f"unlabel {name}"), s.say(f"poly {name}"), s.say(f"rates {name} 1 2")],
                             ["no NoName"] * 4, name)
        for line in ("label", "label p", "label p 3 3", "label 3", "label p x", "label p  3", "label p 03", "label p -0", "unlabel",
                     "unlabel p s", "poly", "poly p s", "poly p ", "label p s", "label p " + "9" * 22):
            self.assertEqual(s.say(line), "what", line)
        self.check(s, ("label longname 2", "version 7"), ("label longname 5", "no NoStep"), ("label q -1", "no NoStep"),
                   ("label q " + "9" * 21, "no NoStep"), ("label Q 99", "no NoName"), ("label s 0", "version 8"), ("poly s", "0"))

    def test_at(self):
        s = desk_shell()
        self.check(s, ("at 3 4", "p:12 s:7"), ("at -3 4", "p:-12 s:1"), ("at 0 0", "p:0 s:0"), ("label a 2", "version 7"),
                   ("at 3 4", "a:4 p:12 s:7"), ("at 1" + "0" * 20 + " 2", "a:2 p:2" + "0" * 20 + " s:1" + "0" * 19 + "2"))
        for line in ("at", "at 3", "at 3 4 5", "at 3 x", "at  3 4", "at 3 4 ", "at 3 04", "at 3 -0", "at 3 4\n", "at 3 " + "1" * 22, "at p 3 4"):
            self.assertEqual(s.say(line), "what", line)
        self.check(s, ("at 3 " + "1" * 21, "no BadPoint"), ("at -" + "9" * 21 + " 0", "no BadPoint"))
        self.check(shell("new 1"), ("at 1", "none"), ("at " + "9" * 21, "no BadPoint"), ("at", "what"), ("at 1 2", "what"))
        self.check(shell("new 0"), ("at", "none"), ("at 1", "what"), ("at ", "what"), ("label x 0", "version 1"), ("at", "x:0"))

    def test_rates(self):
        s = desk_shell()
        self.check(s, ("rates p 3 4", "4 3"), ("rates s 3 4", "1 1"), ("rates p -3 -4", "-4 -3"), ("rates q 3 4", "no NoName"),
                   ("rates q 3 " + "1" * 21, "no NoName"), ("rates p 3 " + "1" * 21, "no BadPoint"), ("rates 3 3 4", "no NoName"))
        for line in ("rates", "rates p", "rates p 3", "rates p 3 4 5", "rates p 3 x", "rates 3 4", "rates p  3 4", "rates p 3 4 ",
                     "rates p 3 " + "1" * 22, "rates p 03 4", "rates  3 4 5"):
            self.assertEqual(s.say(line), "what", line)
        self.check(shell("new 0", "label x 0"), ("rates x", "none"), ("rates y", "no NoName"), ("rates x 1", "what"), ("rates", "what"))

    def test_poly(self):
        s = shell("new 2", "add in 0", "add in 1", "add * 1 2", "add set -3", "add * 3 4", "add * 5 5", "add - 5 6", "label f 7", "label n 0",
                  "label k 4")
        self.check(s, ("poly f", "-3 x0 x1 + -9 x0^2 x1^2"), ("poly n", "0"), ("poly k", "-3"), ("poly g", "no NoName"))

    def test_too_wide_and_other_errors_of_the_desk(self):
        lines = [" ".join(str(part) for part in step) for step in STEPS]
        s = shell("new 2", "put 0 " + lines[0], *["add " + line for line in lines[1:]])
        self.check(s, (f"label wide {MORE}", "version 31"), ("poly wide", "no TooWide"), ("at 1 1", "wide:201"),
                   ("rates wide 0 0", " ".join(map(str, rates_at((2, STEPS, (MORE,)), (0, 0))[0]))))
        for version in range(32, 41):
            self.assertEqual(s.say("label wide 3"), f"version {version}")
        for line in ("label wide 4", "add in 0", "put 0 in 1", "unlabel wide", "drop"):
            self.assertEqual(s.say(line), "no Full")
        self.check(s, ("put 99 in 1", "no NoStep"), ("add in 2", "no BadRow"), ("undo", "version 39"), ("drop", "version 40"))
        many = shell("new 0", *[f"label {letter} 0" for letter in "abcdefgh"])
        self.check(many, ("label i 0", "no TooLong"), ("label h 0", "version 9"), ("unlabel c", "version 10"), ("label i 0", "version 11"))

    def test_values_that_are_no_strings(self):
        for s in (Shell(), desk_shell()):
            for value in ODD + (b"row", ["row"], ("row",), {"row": 1}, DEEP, HUGE, None, 0, True):
                if not isinstance(value, str):
                    self.assertEqual(s.say(value), "what")

    def test_odd_strings(self):
        s = desk_shell()
        for line in ("", " ", "  ", "\n", "row\n", "\nrow", " row", "row row", "ROW", "rows", "a line\nand another", "x" * 2000, " " * 2000,
                     "new\n2", "at\n3 4", "at 3\n4", "label p\n3"):
            self.assertEqual(s.say(line), "what", line)
        self.assertEqual(s.say("row").split("\n")[-1], "label s 4")

    def test_lines_that_tell_what_or_no_change_nothing(self):
        s = desk_shell()
        before = s.say("row")
        for line in ("add in 9", "put 9 in 0", "drop", "label P 1", "unlabel z", "add", "label p", "at 3", "new 99", "poly z", None, "redo"):
            s.say(line)
        self.assertEqual([s.say("row"), s.say("undo"), s.say("redo")], [before, "version 5", "version 6"])

    def test_each_shell_has_a_desk_of_its_own(self):
        one, other = shell("new 1"), shell("new 2")
        one.say("add in 0")
        self.assertEqual([one.say("row"), other.say("row"), Shell().say("row")], ["inputs 1\nset 0\nin 0", "inputs 2\nset 0", "no desk"])

    def test_arguments_by_name(self):
        self.assertEqual(Shell().say(line="new 3"), "ok")


def desk_told(desk, words):
    """Return what a shell is to tell of such words, by the desk itself."""
    word, rest = words[0], words[1:]
    numbers = [int(part) for part in rest if part.lstrip("-").isdigit()]
    try:
        if word == "add":
            return f"version {desk.add((rest[0],) + tuple(numbers))}"
        if word == "put":
            return f"version {desk.put(numbers[0], (rest[1],) + tuple(numbers[1:]))}"
        if word == "drop":
            return f"version {desk.drop()}"
        if word == "label":
            return f"version {desk.label(rest[0], numbers[0])}"
        if word == "unlabel":
            return f"version {desk.unlabel(rest[0])}"
        if word in ("undo", "redo"):
            getattr(desk, word)()
            return f"version {desk.version}"
        if word == "row":
            return str(desk)
        if word == "at":
            return " ".join(f"{name}:{value}" for name, value in desk.told(tuple(numbers))) or "none"
        if word == "rates":
            return " ".join(map(str, desk.rates(rest[0], tuple(numbers)))) or "none"
        return poly_text(desk.poly(rest[0]))
    except RowError as error:
        return "no " + type(error).__name__


class BesideDesksTest(unittest.TestCase):

    def random_words(self, rng, inputs):
        word = rng.choice(OTHERS + ("add",) * 6 + ("label",) * 3 + ("put",) * 2)
        number = str(rng.randint(-1, 8))
        name = rng.choice(("a", "b", "c", "sum", "Bad", ""))
        step = rng.choice((["in", number], ["set", number], ["neg", number], ["+", number, str(rng.randint(0, 5))],
                           ["*", number, str(rng.randint(0, 5))], ["-", str(rng.randint(0, 3)), number]))
        point = [str(rng.randint(-9, 9)) for _ in range(inputs)]
        return [word] + {"add": step, "put": [number] + step, "label": [name, number], "unlabel": [name], "at": point,
                         "rates": [name] + point, "poly": [name]}.get(word, [])

    def test_a_shell_does_what_its_desk_does(self):
        kinds = {}
        for seed in range(60):
            rng = random.Random(seed)
            inputs = seed % 4
            s, desk = shell(f"new {inputs}"), nameless_desk(inputs)
            for _ in range(40):
                words = self.random_words(rng, inputs)
                told = s.say(" ".join(words))
                self.assertEqual(told, desk_told(desk, words), words)
                kinds[told.split(" ")[0] if not told.startswith("no ") else told] = True
        self.assertTrue({"version", "no BadRow", "no NoName", "no NoStep", "no Unfit", "no NothingDone", "no NothingUndone", "none"} <= set(kinds))

    def test_the_text_of_the_row_can_be_read(self):
        s = desk_shell()
        lines = s.say("row").split("\n")
        labels = [line.split(" ") for line in lines if line.startswith("label")]
        text = "\n".join([line for line in lines if not line.startswith("label")] + [" ".join(["ends"] + [one[2] for one in labels])])
        row = read_row(text)
        self.assertEqual(row, (2, (("set", 0), ("in", 0), ("in", 1), ("*", 1, 2), ("+", 1, 2)), (3, 4)))
        self.assertEqual(Desk(row).told((3, 4)), (("a", 12), ("b", 7)))
        self.assertEqual(s.say("at 3 4"), "p:12 s:7")

    def test_the_lines_of_the_text_say_the_row_again(self):
        s = desk_shell()
        again = Shell()
        lines = s.say("row").split("\n")
        self.assertEqual(again.say("new " + lines[0].split(" ")[1]), "ok")
        for index, line in enumerate(lines[1:]):
            again.say(line if line.startswith("label") else "put 0 " + line if index == 0 else "add " + line)
        self.assertEqual(again.say("row"), s.say("row"))


if __name__ == "__main__":
    unittest.main()
