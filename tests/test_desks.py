import random
import unittest

from helper import BEYOND, FULL, HUGE, MORE, NARROW, NOT_NEEDED, ODD, STEPS, TAKEN_AWAY, bent, chain, lists_of
from rowsback.desks import Desk, KeptDesk
from rowsback.errors import (BadBatch, BadPoint, BadRow, Full, NoName, NoStep, NothingDone, NothingUndone, Rejected,
                             RowError, TooLong, TooWide, Unfit)
from rowsback.rates import rates_at
from rowsback.rows import row_error, told
from rowsback.sames import polys
from rowsback.texts import row_text

ROW = (2, (("in", 0), ("in", 1), ("*", 0, 1)), (2,))
MANY = (2, ROW[1] + (("+", 2, 0), ("neg", 3), ("set", 7)), (4, 2, 3, 2))


def state(desk):
    """Return all that can be seen of the desk, with what undo and redo lead to."""
    other = desk.copy()
    seen = [desk.inputs, desk.steps, desk.ends, desk.version, len(desk), list(desk), str(desk), desk.news()]
    while True:
        try:
            other.redo()
        except NothingUndone:
            break
    seen.append((other.version, other.steps, other.ends))
    while other.version:
        other.undo()
        seen.append((other.steps, other.ends))
    return seen


class DeskCase(unittest.TestCase):

    def refused(self, desk, error, fields, work, *arguments):
        """Look whether work is refused with the error, and whether all is as it was."""
        before = state(desk)
        with self.assertRaises(RowError) as caught:
            work(*arguments)
        self.assertIs(type(caught.exception), error)
        self.assertEqual(vars(caught.exception), fields)
        self.assertEqual(state(desk), before)


class NewDeskTest(DeskCase):

    def test_examples(self):
        d = Desk(ROW)
        self.assertEqual(
            [d.add(("+", 2, 0)), d.label("sum", 3), d.ends, d.told((2, 3)), d.rates("sum", (2, 3)), d.news(), d.version],
            [1, 2, (("a", 2), ("sum", 3)), (("a", 6), ("sum", 8)), (4, 2), ("sum",), 2])
        self.assertEqual(
            [d.put(1, ("in", 0)), d.news(), d.poly("sum"), d.undo(), d.news(), str(d)],
            [3, ("a", "sum"), (((1, 0), 1), ((2, 0), 1)), None, ("a", "sum"),
             "inputs 2\nin 0\nin 1\n* 0 1\n+ 2 0\nlabel a 2\nlabel sum 3"])
        self.refused(d, Rejected, {"index": 1}, d.batch, (("unlabel", "a"), ("drop",)))

    def test_at_first(self):
        d = Desk(MANY)
        self.assertEqual([d.inputs, d.steps, d.ends, d.version, len(d), d.news()],
                         [2, MANY[1], (("a", 4), ("b", 2), ("c", 3), ("d", 2)), 0, 6, ()])
        self.assertEqual([list(d), "a" in d, "e" in d, d["a"], d["d"], d.row()],
                         [["a", "b", "c", "d"], True, False, 4, 2, MANY])
        self.assertEqual([name for name, _ in Desk((0, (("set", 1),), (0,) * 8)).ends], list("abcdefgh"))

    def test_no_rows(self):
        wrong = [None, (), (9, ROW[1], (2,)), (2, (), ()), (2, ROW[1], ()), (2, ROW[1], (3,)), lists_of(ROW), HUGE]
        wrong += [(2, ROW[1] + (("*", 0, 3),), (2,)), (2, (("set", 0),) * 61, (0,)), (2, ROW[1], (0,) * 9)]
        for value in wrong:
            with self.assertRaises(BadRow) as caught:
                Desk(value)
            self.assertEqual(caught.exception.error, row_error(value))

    def test_any_value(self):
        for value in bent(ROW):
            try:
                self.assertEqual(Desk(value).row(), value)
            except BadRow as error:
                self.assertEqual(error.error, row_error(value))

    def test_properties_are_only_read(self):
        d = Desk(ROW)
        for name in ("inputs", "steps", "ends", "version"):
            with self.assertRaises(AttributeError):
                setattr(d, name, 1)

    def test_arguments_by_name(self):
        d = Desk(value=MANY)
        d.add(step=("set", 1))
        d.put(step=("set", 2), number=6)
        d.label(number=6, name="z")
        self.assertEqual([d.told(point=(1, 1))[-1], d.rates(point=(1, 1), name="c"), d.poly(name="z")],
                         [("z", 2), (2, 1), (((0, 0), 2),)])
        d.unlabel(name="z")
        d.batch(edits=(("drop",),))
        self.assertEqual(d.attempt(work=len), 6)


class ReadingTest(DeskCase):

    def test_names(self):
        d = Desk(ROW)
        for value in ODD + ("b", "A", "a ", "aa", d):
            self.assertIs(value in d, False)
            self.refused(d, NoName, {"given": value}, d.__getitem__, value)
        self.assertIs("a" in d, True)

    def test_row(self):
        d = Desk(MANY)
        d.label("aa", 0)
        d.label("b", 1)
        self.assertEqual(d.row(), (2, MANY[1], (4, 0, 1, 3, 2)))
        e = Desk(ROW)
        e.unlabel("a")
        self.refused(e, Unfit, {}, e.row)
        self.assertEqual([e.told((1, 2)), list(e), e.ends], [(), [], ()])

    def test_told(self):
        d = Desk(MANY)
        self.assertEqual(d.told((2, 3)), (("a", -8), ("b", 6), ("c", 8), ("d", 6)))
        for point in ODD + ((1,), (1, True), [1, 2], (1, 10 ** 20 + 1), (1, 2, 3)):
            if point != (0, 0):
                self.refused(d, BadPoint, {"given": point}, d.told, point)
        bare = Desk((0, (("set", 3),), (0,)))
        self.assertEqual([bare.told(()), bare.rates("a", ()), bare.poly("a")], [(("a", 3),), (), (((), 3),)])
        bare.unlabel("a")
        self.refused(bare, BadPoint, {"given": (1,)}, bare.told, (1,))

    def test_rates(self):
        d = Desk(MANY)
        self.assertEqual([d.rates("a", (2, 3)), d.rates("b", (2, 3))], [(-4, -2), (3, 2)])
        for name in ODD:
            self.refused(d, NoName, {"given": name}, d.rates, name, None)
        for point in ODD:
            if point != (0, 0):
                self.refused(d, BadPoint, {"given": point}, d.rates, "a", point)
        self.assertEqual(d.rates("a", (10 ** 20, 0)), (-1, -10 ** 20))

    def test_poly(self):
        d = Desk((2, STEPS[:59], (1, 0)))
        self.assertEqual(d.poly("a"), (((0, 1), 1),))
        for name in ODD:
            self.refused(d, NoName, {"given": name}, d.poly, name)

    def test_poly_that_is_too_wide(self):
        d = Desk(BEYOND)
        self.assertEqual(len(d.poly("a")), 1)
        self.refused(d, TooWide, {}, d.poly, "b")
        self.assertEqual(d.rates("b", (1, 1)), rates_at(BEYOND, (1, 1))[1])
        self.refused(d, NoName, {"given": "c"}, d.poly, "c")
        self.assertEqual(len(Desk(NOT_NEEDED).poly("b")), 200)

    def test_text(self):
        self.assertEqual(str(Desk(MANY)), row_text(MANY).rsplit("\n", 1)[0] + "\nlabel a 4\nlabel b 2\nlabel c 3\nlabel d 2")
        d = Desk((0, (("set", -4),), (0,)))
        d.unlabel("a")
        self.assertEqual(str(d), "inputs 0\nset -4")

    def test_iterating_while_names_change(self):
        d = Desk(MANY)
        seen = []
        for name in d:
            seen.append(name)
            d.unlabel(name)
        self.assertEqual([seen, list(d)], [["a", "b", "c", "d"], []])
        names = iter(Desk(MANY))
        self.assertEqual([next(names), list(names)], ["a", ["b", "c", "d"]])
        kept = iter(d)
        d.label("z", 0)
        self.assertEqual([list(kept), list(d)], [[], ["z"]])

    def test_what_was_told_does_not_change(self):
        d = Desk(ROW)
        steps, ends, row = d.steps, d.ends, d.row()
        d.add(("set", 1))
        d.label("b", 3)
        self.assertEqual([steps, ends, row], [ROW[1], (("a", 2),), ROW])


class EqualTest(DeskCase):

    def test_equal_desks(self):
        d, e = Desk(ROW), Desk(ROW)
        self.assertIs(d == e, True)
        self.assertIs(d != e, False)
        d.add(("set", 1))
        self.assertIs(d == e, False)
        self.assertIs(d != e, True)
        d.undo()
        self.assertIs(d == e, True)
        e.label("b", 2)
        self.assertIs(d == e, False)
        d.label("b", 1)
        self.assertIs(d == e, False)
        d.label("b", 2)
        self.assertIs(d == e, True)

    def test_names_inputs_and_steps_count(self):
        d = Desk(ROW)
        for row in ((3, ROW[1], (2,)), (2, ROW[1], (1,)), (2, ROW[1], (2, 2)), (2, ROW[1][:2] + (("*", 1, 0),), (2,))):
            self.assertIs(d == Desk(row), False)

    def test_other_values(self):
        d = Desk(ROW)
        for value in ODD + (ROW, str(d), {"a": 2}):
            self.assertIs(d == value, False)
            self.assertIs(value == d, False)
            self.assertIs(d != value, True)

    def test_kept_desks(self):
        self.assertIs(Desk(ROW) == KeptDesk(ROW, ("a",)), True)
        self.assertIs(KeptDesk(ROW, ("a",)) == Desk(ROW), True)
        self.assertIs(KeptDesk(ROW, ("a",)) == KeptDesk(ROW, ()), True)
        self.assertIs(KeptDesk(ROW, ("a",)) != Desk(MANY), True)


class EditTest(DeskCase):

    def test_add(self):
        d = Desk(ROW)
        self.assertEqual([d.add(("neg", 2)), d.add(("set", 10 ** 20)), d.steps[3:]], [1, 2, (("neg", 2), ("set", 10 ** 20))])
        for step in ODD + (("in", 2), ("neg", 5), ("*", 4, 5), ("set", 10 ** 20 + 1), ["neg", 2], ("set", True)):
            if step not in (("in", 0), ("set", 0)) or type(step) is not tuple:
                self.refused(d, BadRow, {"error": (5, "step")}, d.add, step)

    def test_add_too_great_or_too_many(self):
        d = Desk((1, chain(64), (0,)))
        self.refused(d, BadRow, {"error": (7, "size")}, d.add, ("*", 6, 0))
        self.assertEqual(d.add(("*", 5, 5)), 1)
        e = Desk((1, (("in", 0),) * 60, (0,)))
        self.refused(e, BadRow, {"error": (None, "steps")}, e.add, ("in", 0))
        self.refused(e, BadRow, {"error": (None, "steps")}, e.add, None)
        self.assertEqual(e.drop(), 1)
        self.assertEqual(e.add(("in", 0)), 2)

    def test_put(self):
        d = Desk(MANY)
        self.assertEqual(d.put(2, ("-", 0, 1)), 1)
        self.assertEqual(d.steps, MANY[1][:2] + (("-", 0, 1),) + MANY[1][3:])
        self.assertEqual([d.put(0, ("set", 5)), d.put(5, ("*", 4, 4)), d.told((7, 3))[0]], [2, 3, ("a", -7)])
        for number in ODD + (6, -6, "0", [0]):
            if type(number) is not int or number not in range(6):
                self.refused(d, NoStep, {"number": number}, d.put, number, None)
        for step in ODD + (("neg", 2), ("neg", 3), ("in", 2)):
            if not (type(step) is tuple and step in (("in", 0), ("set", 0))):
                self.refused(d, BadRow, {"error": (2, "step")}, d.put, 2, step)

    def test_put_that_makes_a_later_step_too_great(self):
        d = Desk((1, (("in", 0),) + chain(64), (7,)))
        d.put(1, ("neg", 0))
        e = Desk((1, chain(32) + (("+", 0, 0), ("*", 6, 5)), (7,)))
        self.refused(e, BadRow, {"error": (7, "size")}, e.put, 6, ("*", 4, 5))
        self.assertEqual(e.put(6, ("+", 5, 5)), 1)

    def test_drop(self):
        d = Desk(MANY)
        self.assertEqual([d.drop(), d.steps], [1, MANY[1][:5]])
        self.refused(d, Unfit, {}, d.drop)
        d.unlabel("a")
        d.unlabel("c")
        self.assertEqual([d.drop(), d.drop()], [4, 5])
        one = Desk((0, (("set", 1),), (0,)))
        self.refused(one, Unfit, {}, one.drop)
        one.unlabel("a")
        self.refused(one, Unfit, {}, one.drop)

    def test_drop_with_no_arguments_alone(self):
        with self.assertRaises(TypeError):
            Desk(MANY).drop(1)

    def test_label(self):
        d = Desk(ROW)
        self.assertEqual([d.label("b", 0), d.label("a", 1), d.label("b", 0), d.label("abcdefgh", 2), d.label("z", 2)],
                         [1, 2, 3, 4, 5])
        self.assertEqual(d.ends, (("a", 1), ("abcdefgh", 2), ("b", 0), ("z", 2)))
        for name in ODD + ("", "abcdefghi", "A", "a1", "a ", " a", "a\n", "a_b", "-", ("a",), ["a"], "\u00e9"):
            if name not in ("in", "gain"):
                self.refused(d, NoName, {"given": name}, d.label, name, None)
        for number in ODD + (3, -3):
            if type(number) is not int or number not in range(3):
                self.refused(d, NoStep, {"number": number}, d.label, "a", number)
                self.refused(d, NoStep, {"number": number}, d.label, "new", number)

    def test_as_many_names_as_may_be(self):
        d = Desk((0, (("set", 1), ("set", 2)), (0,) * 8))
        self.refused(d, TooLong, {}, d.label, "z", 0)
        self.refused(d, NoStep, {"number": 2}, d.label, "z", 2)
        self.assertEqual([d.label("h", 1), d.label("a", 0)], [1, 2])
        d.unlabel("h")
        self.assertEqual([d.label("z", 1), d.ends[-1]], [4, ("z", 1)])

    def test_unlabel(self):
        d = Desk(MANY)
        self.assertEqual([d.unlabel("b"), d.ends], [1, (("a", 4), ("c", 3), ("d", 2))])
        for name in ODD + ("b", "A", "e"):
            self.refused(d, NoName, {"given": name}, d.unlabel, name)

    def test_edits_that_change_nothing_are_edits(self):
        d = Desk(ROW)
        self.assertEqual([d.put(0, ("in", 0)), d.label("a", 2), d.version, d.news()], [1, 2, 2, ()])
        d.undo()
        d.undo()
        self.refused(d, NothingDone, {}, d.undo)

    def test_full(self):
        d = Desk(MANY)
        self.assertEqual([d.put(5, ("set", index)) for index in range(40)], list(range(1, 41)))
        self.refused(d, Full, {}, d.add, ("set", 1))
        self.refused(d, Full, {}, d.put, 5, ("set", 1))
        self.refused(d, Full, {}, d.drop)
        self.refused(d, Full, {}, d.label, "z", 0)
        self.refused(d, Full, {}, d.unlabel, "a")

    def test_full_comes_behind_all_else(self):
        d = Desk((0, (("set", 1), ("set", 2)), (1,) * 8))
        for index in range(40):
            d.put(0, ("set", index))
        self.refused(d, BadRow, {"error": (2, "step")}, d.add, None)
        self.refused(d, NoStep, {"number": 2}, d.put, 2, None)
        self.refused(d, BadRow, {"error": (0, "step")}, d.put, 0, None)
        self.refused(d, Unfit, {}, d.drop)
        self.refused(d, NoName, {"given": "Z"}, d.label, "Z", 9)
        self.refused(d, NoStep, {"number": 9}, d.label, "z", 9)
        self.refused(d, TooLong, {}, d.label, "z", 1)
        self.refused(d, NoName, {"given": "z"}, d.unlabel, "z")
        self.refused(d, Full, {}, d.label, "a", 0)
        d.undo()
        self.assertEqual([d.label("a", 0), d.version], [40, 40])

    def test_undo_and_redo(self):
        d = Desk(ROW)
        self.refused(d, NothingDone, {}, d.undo)
        self.refused(d, NothingUndone, {}, d.redo)
        d.add(("set", 1))
        d.label("b", 3)
        self.refused(d, NothingUndone, {}, d.redo)
        self.assertEqual([d.undo(), d.version, d.ends, len(d)], [None, 1, (("a", 2),), 4])
        self.assertEqual([d.undo(), d.version, d.steps], [None, 0, ROW[1]])
        self.refused(d, NothingDone, {}, d.undo)
        self.assertEqual([d.redo(), d.version, len(d)], [None, 1, 4])
        self.assertEqual([d.redo(), d.version, d.ends], [None, 2, (("a", 2), ("b", 3))])
        self.refused(d, NothingUndone, {}, d.redo)

    def test_forty_edits_there_and_back(self):
        d = Desk((1, (("in", 0),), (0,)))
        seen = [d.steps]
        for index in range(40):
            d.add(("set", index))
            seen.append(d.steps)
        for version in range(39, -1, -1):
            d.undo()
            self.assertEqual([d.steps, d.version], [seen[version], version])
        self.refused(d, NothingDone, {}, d.undo)
        for version in range(1, 41):
            d.redo()
            self.assertEqual([d.steps, d.version], [seen[version], version])
        self.refused(d, NothingUndone, {}, d.redo)
        self.refused(d, Full, {}, d.add, ("set", 1))

    def test_an_edit_forgets_what_was_taken_back(self):
        d = Desk(ROW)
        d.add(("set", 1))
        d.add(("set", 2))
        d.undo()
        d.undo()
        self.refused(d, NoStep, {"number": 3}, d.put, 3, ("set", 1))
        d.redo()
        self.assertEqual(d.add(("set", 3)), 2)
        self.refused(d, NothingUndone, {}, d.redo)
        self.assertEqual(d.steps[3:], (("set", 1), ("set", 3)))


class BatchTest(DeskCase):

    def test_none(self):
        d = Desk(ROW)
        d.label("b", 0)
        d.undo()
        before = state(d)
        self.assertEqual(d.batch(()), 0)
        self.assertEqual(state(d), before)
        d.redo()
        self.assertEqual([d.version, d.news()], [1, ("b",)])

    def test_each_edit(self):
        d = Desk(ROW)
        edits = (("add", ("neg", 2)), ("put", 0, ("set", 4)), ("label", "b", 3), ("unlabel", "a"), ("add", ("set", 1)),
                 ("drop",))
        self.assertEqual([d.batch(edits), d.version], [6, 6])
        self.assertEqual([d.steps, d.ends, d.news()], [(("set", 4), ("in", 1), ("*", 0, 1), ("neg", 2)), (("b", 3),), ()])
        for _ in range(6):
            d.undo()
        self.assertEqual(d, Desk(ROW))

    def test_twenty_and_one_more(self):
        d = Desk(ROW)
        self.assertEqual(d.batch((("put", 0, ("in", 0)),) * 20), 20)
        self.refused(d, BadBatch, {}, d.batch, (("put", 0, ("in", 0)),) * 21)
        self.assertEqual(d.batch((("put", 0, ("in", 0)),) * 20), 40)
        self.refused(d, Rejected, {"index": 0}, d.batch, (("put", 0, ("in", 0)),) * 20)
        d.undo()
        self.refused(d, Rejected, {"index": 1}, d.batch, (("put", 0, ("in", 0)),) * 20)

    def test_no_batches(self):
        d = Desk(ROW)
        right = ("add", ("set", 1))
        wrong = ODD + ([right], (list(right),), (right, None), ("add", ("set", 1)), (("add",),), (("add", 1, 2),),
                       (("put", 0),), (("put", 0, 1, 2),), (("drop", 0),), (("label", "a"),), (("label", "a", 0, 0),),
                       (("unlabel",),), (("unlabel", "a", 0),), (("undo",),), (("redo",),), (("batch", ()),),
                       (("attempt", len),), (("Add", ("set", 1)),), ((),), ((("add",), 1),), ((["add"], 1),), (({}, 1),),
                       ((None, 1),), (right,) * 21, (("copy",),), (("news",),), ((0, 1),), ("drop",), (("",),))
        for edits in wrong:
            if edits != ():
                self.refused(d, BadBatch, {}, d.batch, edits)
        self.refused(d, BadBatch, {}, d.batch, (("drop",), ("drop", 1)))

    def test_any_values_as_arguments(self):
        d = Desk(MANY)
        for value in ODD:
            for edit in (("add", value), ("put", value, value), ("label", value, value), ("unlabel", value)):
                try:
                    d.copy().batch((("drop",), edit))
                except Rejected as error:
                    self.assertEqual(error.index, 1)

    def test_refused_amid(self):
        d = Desk(ROW)
        d.add(("set", 1))
        d.label("b", 3)
        d.undo()
        self.refused(d, Rejected, {"index": 2}, d.batch, (("add", ("set", 2)), ("drop",), ("label", "Z", 0), ("drop",)))
        self.refused(d, Rejected, {"index": 0}, d.batch, (("unlabel", "z"),))
        d.redo()
        self.assertEqual(d.ends, (("a", 2), ("b", 3)))

    def test_refused_before_the_last_edit(self):
        d = Desk(ROW)
        for _ in range(39):
            d.label("a", 2)
        self.refused(d, Rejected, {"index": 1}, d.batch, (("label", "a", 2), ("label", "a", 2)))
        self.assertEqual(d.batch((("label", "a", 2),)), 40)

    def test_bent_batches(self):
        edits = (("add", ("neg", 2)), ("put", 0, ("set", 4)), ("label", "b", 3), ("unlabel", "a"))
        told = {}
        for value in bent(edits):
            d = Desk(ROW)
            d.label("q", 0)
            d.undo()
            before = state(d)
            try:
                version = d.batch(value)
                told["done"] = True
                self.assertEqual([version, d.version], [len(value)] * 2)
            except (BadBatch, Rejected) as error:
                told[type(error).__name__] = True
                self.assertEqual(state(d), before)
        self.assertEqual(len(told), 3)


class AttemptTest(DeskCase):

    def test_what_work_returns(self):
        d = Desk(ROW)
        self.assertEqual(d.attempt(lambda desk: (desk is d, desk.add(("set", 1)))), (True, 1))
        self.assertEqual([d.version, len(d)], [1, 4])
        self.assertIsNone(d.attempt(lambda desk: None))
        self.assertIs(d.attempt(lambda desk: desk), d)

    def test_row_errors(self):
        d = Desk(ROW)
        d.add(("set", 1))
        d.label("b", 3)
        d.undo()

        def work(desk):
            desk.unlabel("a")
            desk.put(0, ("set", 9))
            desk.undo()
            desk.undo()
            desk.undo()
            desk.label("c", 0)
            desk.batch((("add", ("set", 1)), ("drop",), ("unlabel", "z")))

        self.refused(d, Rejected, {"index": 2}, d.attempt, work)
        d.redo()
        self.assertEqual(d.ends, (("a", 2), ("b", 3)))
        for error in (TooWide, TooLong, RowError):
            def raising(desk):
                desk.add(("set", 5))
                raise error()
            self.refused(d, error, {}, d.attempt, raising)

    def test_the_error_itself_goes_on(self):
        d = Desk(ROW)
        made = NoName(("any", ["value"]))

        def work(desk):
            desk.add(("set", 1))
            raise made

        with self.assertRaises(NoName) as caught:
            d.attempt(work)
        self.assertIs(caught.exception, made)

    def test_own_row_errors(self):
        class Own(RowError):
            pass

        d = Desk(ROW)

        def work(desk):
            desk.add(("set", 1))
            raise Own()

        with self.assertRaises(Own):
            d.attempt(work)
        self.assertEqual(d.version, 0)

    def test_other_errors(self):
        for error in (ValueError, KeyError, ZeroDivisionError, StopIteration, KeyboardInterrupt):
            d = Desk(ROW)

            def work(desk):
                desk.add(("set", 1))
                raise error("told")

            with self.assertRaises(error):
                d.attempt(work)
            self.assertEqual([d.version, len(d), d.news()], [1, 4, ()])

    def test_errors_that_work_catches(self):
        d = Desk(ROW)

        def work(desk):
            desk.add(("set", 1))
            try:
                desk.label("Z", 0)
            except NoName:
                return desk.version

        self.assertEqual([d.attempt(work), d.version], [1, 1])

    def test_attempts_in_attempts(self):
        d = Desk(ROW)

        def inner(desk):
            desk.label("b", 1)
            desk.undo()
            desk.undo()
            desk.drop()
            desk.drop()

        def outer(desk):
            desk.add(("set", 1))
            try:
                desk.attempt(inner)
            except Unfit:
                return [desk.version, len(desk), desk.ends]

        self.assertEqual(d.attempt(outer), [1, 4, (("a", 2),)])
        self.assertEqual([d.version, d.news()], [1, ()])

        def both(desk):
            desk.add(("set", 2))
            desk.attempt(inner)

        self.refused(d, Unfit, {}, d.attempt, both)

    def test_news_are_as_they_were(self):
        d = Desk(ROW)
        d.label("b", 1)

        def work(desk):
            desk.unlabel("a")
            self.assertEqual(desk.news(), ("a",))
            raise Full()

        self.refused(d, Full, {}, d.attempt, work)
        self.assertEqual(d.news(), ("b",))


class NewsTest(DeskCase):

    def test_each_kind_of_edit(self):
        d = Desk(MANY)
        told = []
        for edit in (("add", ("set", 3)), ("label", "z", 6), ("put", 6, ("set", 3)), ("put", 6, ("set", 4)),
                     ("label", "z", 5), ("label", "z", 2), ("label", "b", 2), ("put", 2, ("*", 1, 0)),
                     ("put", 2, ("*", 1, 1)), ("unlabel", "d"), ("drop",), ("label", "d", 2)):
            d.batch((edit,))
            told.append(d.news())
        self.assertEqual(told, [(), ("z",), (), ("z",), ("z",), ("z",), (), (), ("a", "b", "c", "d", "z"), ("d",), (),
                                ("d",)])

    def test_undo_and_redo(self):
        d = Desk(MANY)
        d.label("z", 0)
        d.put(3, ("-", 2, 0))
        self.assertEqual(d.news(), ("a", "c"))
        told = []
        for work in (d.undo, d.undo, d.redo, d.redo):
            work()
            told.append(d.news())
        self.assertEqual(told, [("a", "c"), ("z",), ("z",), ("a", "c")])

    def test_refused_calls_leave_them(self):
        d = Desk(MANY)
        d.label("z", 0)
        for work in (lambda: d.add(None), lambda: d.drop() and d.drop(), lambda: d.put(9, 1), d.redo, lambda: d.batch(1),
                     lambda: d.batch((("unlabel", "a"), ("unlabel", "a"))), lambda: d.label("Z", 1)):
            with self.assertRaises(RowError):
                d.attempt(lambda desk: work())
            self.assertEqual(d.news(), ("z",))

    def test_batches(self):
        d = Desk(MANY)
        d.batch((("label", "y", 0), ("label", "z", 0)))
        self.assertEqual(d.news(), ("z",))
        d.batch(())
        self.assertEqual(d.news(), ("z",))
        d.undo()
        self.assertEqual(d.news(), ("z",))
        d.undo()
        self.assertEqual(d.news(), ("y",))

    def test_too_wide(self):
        d = Desk(BEYOND)
        self.assertEqual(d.news(), ())
        d.label("c", 0)
        for _ in range(2):
            with self.assertRaises(TooWide):
                d.news()
        d.unlabel("b")
        self.assertEqual(d.news(), ("b",))
        d.label("b", MORE)
        self.assertEqual(d.news(), ("b",))
        d.undo()
        self.assertEqual(d.news(), ("b",))

    def test_too_wide_ahead_or_now(self):
        d = Desk((2, STEPS, (NARROW, FULL)))
        d.label("b", MORE)
        with self.assertRaises(TooWide):
            d.news()
        d.label("b", FULL)
        with self.assertRaises(TooWide):
            d.news()
        d.label("b", FULL)
        self.assertEqual(d.news(), ())
        e = Desk(TAKEN_AWAY)
        self.assertEqual(e.news(), ())
        e.add(("set", 0))
        with self.assertRaises(TooWide):
            e.news()


class CopyTest(DeskCase):

    def test_a_copy_is_the_same(self):
        d = Desk(MANY)
        d.add(("set", 1))
        d.label("z", 6)
        d.unlabel("a")
        d.undo()
        d.undo()
        e = d.copy()
        self.assertIs(type(e), Desk)
        self.assertEqual(state(e), state(d))
        self.assertEqual(e.news(), ("z",))
        self.assertEqual([e == d, e is d], [True, False])

    def test_neither_changes_with_the_other(self):
        d = Desk(MANY)
        d.label("z", 0)
        d.undo()
        e = d.copy()
        before = state(d)
        e.redo()
        e.unlabel("a")
        self.assertEqual(state(d), before)
        other = state(e)
        d.put(0, ("set", 3))
        self.assertEqual(state(e), other)

    def test_a_copy_without_names(self):
        d = Desk(ROW)
        d.unlabel("a")
        e = d.copy()
        self.assertEqual([e.ends, e.news(), e.version, e == d], [(), ("a",), 1, True])
        e.undo()
        self.assertEqual([e.ends, d.ends], [(("a", 2),), ()])


class RandomTest(DeskCase):
    """Desks beside a plain model of lists and dicts."""

    def test_random_edits(self):
        for seed in range(25):
            rng = random.Random(seed)
            d = Desk(MANY)
            steps, names, done, undone = list(MANY[1]), {"a": 4, "b": 2, "c": 3, "d": 2}, [], []
            for _ in range(120):
                held = (list(steps), dict(names))
                number = rng.randrange(-1, len(steps) + 1)
                step = rng.choice((("set", rng.randint(-2, 2)), ("in", rng.randrange(3)), ("neg", rng.randrange(-1, 9)),
                                   ("+", rng.randrange(9), rng.randrange(9)), ("*", rng.randrange(9), 0), None))
                name = rng.choice(("a", "b", "x", "yy", "longname", "toolongname", "B", 7))
                word = rng.choice(("add", "put", "drop", "label", "label", "unlabel", "undo", "redo"))
                arguments = {"add": (step,), "put": (number, step), "label": (name, number), "unlabel": (name,)}
                try:
                    getattr(d, word)(*arguments.get(word, ()))
                except RowError:
                    pass
                else:
                    if word == "add":
                        steps.append(step)
                    elif word == "put":
                        steps[number] = step
                    elif word == "drop":
                        steps.pop()
                    elif word == "label":
                        names[name] = number
                    elif word == "unlabel":
                        names.pop(name)
                    elif word == "undo":
                        undone.append(held)
                        steps, names = done.pop()
                        steps, names = list(steps), dict(names)
                    else:
                        done.append(held)
                        steps, names = undone.pop()
                        steps, names = list(steps), dict(names)
                    if word not in ("undo", "redo"):
                        done.append(held)
                        undone = []
                self.assertEqual([d.steps, d.ends, d.version, len(d)],
                                 [tuple(steps), tuple(sorted(names.items())), len(done), len(steps)])
                if names:
                    self.assertIsNone(row_error(d.row()))
                    self.assertEqual(d.told((3, -4)), tuple(zip(sorted(names), told(d.row(), (3, -4)))))
                    for label, poly in zip(sorted(names), polys(d.row())):
                        self.assertEqual(d.poly(label), poly)


if __name__ == "__main__":
    unittest.main()
