import random
import unittest

from helper import BEYOND, FULL, MORE, NARROW, ODD, STEPS, bent
from rowsback.desks import Desk, KeptDesk
from rowsback.errors import (BadBatch, BadRow, Changed, Full, NoName, NoStep, NothingDone, NothingUndone, Rejected,
                             RowError, TooLong, TooWide, Unfit)
from test_desks import MANY, ROW, DeskCase, state


class NewKeptDeskTest(DeskCase):

    def test_examples(self):
        k = KeptDesk(ROW, ("a",))
        self.assertEqual([k.kept, k.put(2, ("*", 1, 0)), k.add(("neg", 2)), k.label("b", 3), k.news()],
                         [("a",), 1, 2, 3, ("b",)])
        self.refused(k, Changed, {"name": "a"}, k.put, 0, ("in", 1))

    def test_it_is_a_desk(self):
        k = KeptDesk(names=("a", "c"), value=MANY)
        self.assertIsInstance(k, Desk)
        self.assertTrue(issubclass(KeptDesk, Desk))
        self.assertEqual([k.kept, k.inputs, k.steps, k.version, k.news(), k["d"], "b" in k, list(k), len(k), k.row()],
                         [("a", "c"), 2, MANY[1], 0, (), 2, True, ["a", "b", "c", "d"], 6, MANY])
        with self.assertRaises(AttributeError):
            k.kept = ()

    def test_names_that_are_there(self):
        for names in ((), ("a",), ("d",), ("a", "b", "c", "d"), ("b", "d")):
            self.assertEqual(KeptDesk(MANY, names).kept, names)

    def test_names_that_are_not(self):
        wrong = ODD + (("e",), ("b", "a"), ("a", "a"), ["a"], "a", "ab", ("A",), ("",), ({},), (["a"],), ("a", 1), {"a": 1},
                       ("a", "b", "c", "d", "e"), (("a",),), ("a", "c", "b"))
        for names in wrong:
            if names != ():
                with self.assertRaises(NoName) as caught:
                    KeptDesk(MANY, names)
                self.assertEqual(caught.exception.given, names)

    def test_bent_names(self):
        told = 0
        for names in bent(("a", "c")):
            try:
                self.assertEqual(KeptDesk(MANY, names).kept, names)
                told += 1
            except NoName as error:
                self.assertEqual(error.given, names)
        self.assertEqual(told, 2)

    def test_errors_in_their_order(self):
        with self.assertRaises(BadRow) as caught:
            KeptDesk((2, ROW[1], ()), None)
        self.assertEqual(caught.exception.error, (None, "ends"))
        with self.assertRaises(NoName):
            KeptDesk(BEYOND, ("b", "z"))
        for names in (("b",), ("a", "b")):
            with self.assertRaises(TooWide):
                KeptDesk(BEYOND, names)
        self.assertEqual(KeptDesk(BEYOND, ("a",)).kept, ("a",))


class ChangedTest(DeskCase):

    def test_a_kept_name_goes(self):
        k = KeptDesk(MANY, ("b", "d"))
        self.refused(k, Changed, {"name": "b"}, k.unlabel, "b")
        self.refused(k, Changed, {"name": "d"}, k.unlabel, "d")
        self.assertEqual([k.unlabel("a"), k.unlabel("c"), k.ends], [1, 2, (("b", 2), ("d", 2))])

    def test_a_kept_name_moves(self):
        k = KeptDesk((1, (("in", 0), ("in", 0), ("neg", 0), ("neg", 2)), (0,)), ("a",))
        self.assertEqual([k.label("a", 1), k.label("a", 3), k.label("a", 0)], [1, 2, 3])
        self.refused(k, Changed, {"name": "a"}, k.label, "a", 2)

    def test_steps_put_otherwise(self):
        k = KeptDesk((2, ROW[1] + (("+", 2, 0), ("set", 3)), (3, 4)), ("a",))
        self.assertEqual([k.put(2, ("*", 1, 0)), k.put(3, ("+", 0, 2)), k.put(4, ("set", 9)), k.put(4, ("set", 8))],
                         [1, 2, 3, 4])
        for number, step in ((0, ("in", 1)), (2, ("*", 1, 1)), (3, ("-", 0, 2)), (1, ("set", 0))):
            self.refused(k, Changed, {"name": "a"}, k.put, number, step)

    def test_the_first_kept_name(self):
        k = KeptDesk(MANY, ("a", "b", "c", "d"))
        self.refused(k, Changed, {"name": "a"}, k.put, 2, ("+", 0, 1))
        self.refused(k, Changed, {"name": "a"}, k.put, 3, ("+", 0, 1))
        self.refused(k, Changed, {"name": "b"}, k.label, "b", 0)
        k = KeptDesk(MANY, ("b", "c"))
        self.assertEqual(k.put(4, ("set", 1)), 1)
        self.refused(k, Changed, {"name": "c"}, k.put, 3, ("+", 0, 1))

    def test_drop(self):
        k = KeptDesk(MANY, ("a", "b"))
        self.assertEqual(k.drop(), 1)
        self.refused(k, Unfit, {}, k.drop)

    def test_none_kept(self):
        k = KeptDesk(MANY, ())
        self.assertEqual([k.put(2, ("set", 1)), k.unlabel("a"), k.label("b", 0), k.drop(), k.add(("set", 2))],
                         [1, 2, 3, 4, 5])

    def test_behind_all_other_errors(self):
        k = KeptDesk((0, (("set", 1), ("set", 2)), (1,) * 8), ("h",))
        self.refused(k, BadRow, {"error": (1, "step")}, k.put, 1, ("neg", 1))
        self.refused(k, NoStep, {"number": 2}, k.label, "h", 2)
        self.refused(k, TooLong, {}, k.label, "z", 0)
        self.refused(k, NoName, {"given": "z"}, k.unlabel, "z")
        self.refused(k, Changed, {"name": "h"}, k.unlabel, "h")
        for _ in range(40):
            k.put(0, ("set", 5))
        self.refused(k, Full, {}, k.unlabel, "h")
        self.refused(k, Full, {}, k.put, 1, ("set", 7))
        self.refused(k, BadBatch, {}, k.batch, (("unlabel",),))

    def test_too_wide(self):
        k = KeptDesk((2, STEPS, (NARROW, FULL, NARROW)), ("a", "b", "c"))
        self.refused(k, TooWide, {}, k.label, "b", MORE)
        self.refused(k, Changed, {"name": "b"}, k.label, "b", 0)
        other = KeptDesk((2, STEPS, (NARROW, FULL, NARROW)), ("a", "c"))
        self.refused(other, TooWide, {}, other.label, "a", MORE)
        self.assertEqual(other.label("b", MORE), 1)

    def test_the_first_one_of_too_wide_and_changed(self):
        nought = len(STEPS)
        steps = STEPS + (("set", 0), ("+", FULL, nought), ("+", 0, nought))
        for ends, error, fields in (((nought + 1, nought + 2), TooWide, {}),
                                    ((nought + 2, nought + 1), Changed, {"name": "a"})):
            k = KeptDesk((2, steps, ends), ("a", "b"))
            self.refused(k, error, fields, k.put, nought, ("+", NARROW, NARROW))

    def test_undo_and_redo(self):
        k = KeptDesk(MANY, ("a", "c"))
        k.put(2, ("*", 1, 0))
        k.label("z", 0)
        self.assertEqual([k.undo(), k.undo(), k.version, k.steps], [None, None, 0, MANY[1]])
        self.refused(k, NothingDone, {}, k.undo)
        self.assertEqual([k.redo(), k.redo(), k.version, k["z"]], [None, None, 2, 0])
        self.refused(k, NothingUndone, {}, k.redo)
        k.undo()
        self.refused(k, Changed, {"name": "a"}, k.put, 0, ("set", 1))
        self.assertEqual([k.redo(), k["z"]], [None, 0])

    def test_batches(self):
        k = KeptDesk(MANY, ("b",))
        self.refused(k, Rejected, {"index": 1}, k.batch, (("label", "z", 0), ("unlabel", "b")))
        self.refused(k, Rejected, {"index": 0}, k.batch, (("put", 0, ("in", 1)), ("put", 0, ("in", 0))))
        self.assertEqual([k.batch((("label", "b", 2), ("put", 2, ("*", 1, 0)))), k.batch(())], [2, 2])
        wide = KeptDesk((2, STEPS, (FULL,)), ("a",))
        self.refused(wide, Rejected, {"index": 0}, wide.batch, (("label", "a", MORE),))

    def test_attempts(self):
        k = KeptDesk(MANY, ("b",))

        def work(desk):
            desk.label("z", 0)
            desk.unlabel("b")

        self.refused(k, Changed, {"name": "b"}, k.attempt, work)
        self.assertEqual(k.attempt(lambda desk: desk.label("z", 0)), 1)

    def test_news_of_refused_edits(self):
        k = KeptDesk(MANY, ("b",))
        k.label("z", 0)
        self.refused(k, Changed, {"name": "b"}, k.unlabel, "b")
        self.assertEqual(k.news(), ("z",))


class CopyAndTextTest(DeskCase):

    def test_copy(self):
        k = KeptDesk(MANY, ("b", "c"))
        k.label("z", 0)
        k.unlabel("a")
        k.undo()
        other = k.copy()
        self.assertIs(type(other), KeptDesk)
        self.assertEqual([other.kept, state(other), other == k], [("b", "c"), state(k), True])
        self.refused(other, Changed, {"name": "c"}, other.put, 3, ("set", 1))
        before = state(k)
        other.redo()
        other.label("c", 3)
        self.assertEqual([state(k), other.news()], [before, ()])
        self.refused(other.copy(), Changed, {"name": "b"}, other.copy().unlabel, "b")
        self.assertEqual(other.copy().copy().kept, ("b", "c"))

    def test_copies_keep_what_was_at_first(self):
        k = KeptDesk((1, (("in", 0), ("neg", 0), ("neg", 1)), (0,)), ("a",))
        k.label("a", 2)
        other = k.copy()
        self.assertEqual([other.label("a", 0), other["a"], k["a"]], [2, 0, 2])
        self.refused(other, Changed, {"name": "a"}, other.label, "a", 1)

    def test_text(self):
        self.assertEqual(str(KeptDesk(MANY, ("a", "c"))), str(Desk(MANY)) + "\nkept a c")
        self.assertEqual(str(KeptDesk(MANY, ())), str(Desk(MANY)) + "\nkept")
        self.assertEqual(str(KeptDesk(MANY, ("b",)).copy()), str(Desk(MANY)) + "\nkept b")

    def test_text_without_names(self):
        k = KeptDesk(ROW, ())
        k.unlabel("a")
        self.assertEqual(str(k), "inputs 2\nin 0\nin 1\n* 0 1\nkept")


class RandomTest(unittest.TestCase):

    def test_kept_names_stay_as_they_were(self):
        refused = 0
        for seed in range(40):
            rng = random.Random(seed)
            k, d = KeptDesk(MANY, ("b", "c")), Desk(MANY)
            wanted = [k.poly("b"), k.poly("c")]
            for _ in range(60):
                step = rng.choice((("set", rng.randint(-2, 2)), ("in", rng.randrange(2)), ("neg", rng.randrange(9)),
                                   ("*", 1, 0), ("*", 0, 1), ("+", 0, 2), ("+", 2, 0), ("-", 2, 0)))
                word = rng.choice(("add", "put", "put", "drop", "label", "unlabel", "undo", "redo"))
                name, number = rng.choice("abcdx"), rng.randrange(6)
                arguments = {"add": (step,), "put": (number, step), "label": (name, number), "unlabel": (name,)}
                before = state(k)
                plain = d.copy()
                errors = []
                for desk in (k, plain):
                    try:
                        getattr(desk, word)(*arguments.get(word, ()))
                        errors.append(None)
                    except RowError as error:
                        errors.append(type(error))
                if errors[0] is Changed:
                    refused += 1
                    self.assertIs(errors[1], None)
                    self.assertNotIn(word, ("undo", "redo"))
                    self.assertNotEqual([plain.poly(name) if name in plain else None for name in "bc"], wanted)
                    self.assertEqual(state(k), before)
                else:
                    self.assertIs(errors[0], errors[1])
                    d = plain
                self.assertEqual([k.poly("b"), k.poly("c")], wanted)
                self.assertIs(k == d, True)
        self.assertGreater(refused, 50)


if __name__ == "__main__":
    unittest.main()
