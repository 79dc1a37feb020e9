import unittest

from helper import BEYOND, ODD, bent, chain, full_row, random_row
from rowsback.errors import BadRow, BadText
from rowsback.polys import constant, plus, scaled, times, unknown
from rowsback.rows import long_error
from rowsback.sames import polys
from rowsback.texts import poly_text, read_row, row_text

S = (1, (("in", 0), ("set", 2), ("*", 0, 1)), (2,))


class TextCase(unittest.TestCase):

    def check_bad(self, value, place):
        with self.assertRaises(BadText) as caught:
            read_row(value)
        self.assertEqual(caught.exception.place, place, value)

    def check_wrong(self, value, error):
        with self.assertRaises(BadRow) as caught:
            read_row(value)
        self.assertEqual(caught.exception.error, error, value)


class RowTextTest(TextCase):

    def test_examples(self):
        self.assertEqual(row_text(S), "inputs 1\nin 0\nset 2\n* 0 1\nends 2")
        self.assertEqual(read_row("inputs 1\nin 0\nneg 0\nends 1 0"), (1, (("in", 0), ("neg", 0)), (1, 0)))
        self.check_bad("inputs 1\nin 0\nplus 0 0\nends 1", 2)
        self.check_wrong("inputs 1\nin 1\nends 0", (0, "step"))

    def test_each_word(self):
        row = (2, (("in", 1), ("set", -10 ** 20), ("neg", 0), ("+", 2, 1), ("-", 0, 0), ("*", 3, 4)), (5, 0, 5))
        text = "inputs 2\nin 1\nset -100000000000000000000\nneg 0\n+ 2 1\n- 0 0\n* 3 4\nends 5 0 5"
        self.assertEqual(row_text(row), text)
        self.assertEqual(read_row(text), row)

    def test_rows_without_inputs(self):
        row = (0, (("set", 0),), (0,))
        self.assertEqual(row_text(row), "inputs 0\nset 0\nends 0")
        self.assertEqual(read_row("inputs 0\nset 0\nends 0"), row)

    def test_there_and_back(self):
        rows = [random_row(seed, seed % 9, 40, 5, biggest=10 ** 20) for seed in range(40)]
        rows += [full_row(), BEYOND, (20, tuple(("in", k % 20) for k in range(400)), (399,) * 20), (1, chain(64), (6,))]
        for row in rows:
            text = row_text(row)
            self.assertEqual(read_row(text), row)
            self.assertEqual(text.count("\n"), len(row[1]) + 1)


class ReadRowTest(TextCase):

    def test_no_strings(self):
        for value in ODD + (S, b"inputs 0\nset 0\nends 0", ["inputs 0", "set 0", "ends 0"]):
            if not isinstance(value, str):
                self.check_bad(value, None)

    def test_one_text_line_alone(self):
        for text in ("inputs 1", "inputs 0", "inputs -3", "inputs 21"):
            self.check_bad(text, 1)
        for text in ("", "inputs", "inputs 1 1", "ends 0", "in 0", "inputs x", "inputs  1", " inputs 1", "INPUTS 1"):
            self.check_bad(text, 0)

    def test_two_text_lines(self):
        self.check_wrong("inputs 1\nends 0", (None, "steps"))
        self.check_wrong("inputs 21\nends 0", (None, "inputs"))
        for last in ("", "in 0", "set 0", "ends", "ends ", "end 0", "ends 0 ", "inputs 1"):
            self.check_bad("inputs 1\n" + last, 1)
        self.check_bad("\n", 0)
        self.check_bad("input 1\nends 0", 0)

    def test_line_feeds(self):
        self.check_bad("inputs 1\nin 0\nends 0\n", 2)
        self.check_bad("inputs 1\n\nin 0\nends 0", 1)
        self.check_bad("\ninputs 1\nin 0\nends 0", 0)
        self.check_bad("inputs 1\nin 0\n\nends 0", 2)
        self.check_bad("inputs 1\nin 0\nends\n0", 2)
        self.check_bad("inputs 1\nin\n0\nends 0", 1)

    def test_the_first_wrong_line(self):
        self.check_bad("inputs 1\nin\nneg\nends", 1)
        self.check_bad("inputs 1\nin 0\nends 0\nends 0", 2)
        self.check_bad("inputs 1\nin 0\ninputs 1\nends 0", 2)
        self.check_bad("inputs 1\nin 5\nneg 0 0\nends 0", 2)

    def test_spaces(self):
        right = "inputs 1\nin 0\n* 0 0\nends 0 1"
        self.assertEqual(read_row(right), (1, (("in", 0), ("*", 0, 0)), (0, 1)))
        for place, sign in enumerate(right):
            line = right[:place].count("\n")
            self.check_bad(right[:place] + " " + right[place:], line)
            if sign == " ":
                self.check_bad(right[:place] + right[place + 1:], line)
        self.check_bad(right + " ", 3)

    def test_signs_and_noughts(self):
        for number in ("+1", "01", "-0", "-01", "00", "--1", "-", "1-", "1.0", "1e3", "0x1", "1_0", "1,0", "(1)", "a"):
            self.check_bad(f"inputs {number}\nset 0\nends 0", 0)
            self.check_bad(f"inputs 0\nset {number}\nends 0", 1)
            self.check_bad(f"inputs 0\nset 0\n+ 0 {number}\nends 0", 2)
            self.check_bad(f"inputs 0\nset 0\nends 0 {number}", 2)

    def test_numbers_below_nought_are_numbers(self):
        self.assertEqual(read_row("inputs 0\nset -7\nends 0"), (0, (("set", -7),), (0,)))
        self.check_wrong("inputs -1\nset 0\nends 0", (None, "inputs"))
        self.check_wrong("inputs 1\nin -1\nends 0", (0, "step"))
        self.check_wrong("inputs 1\nin 0\nneg -1\nends 0", (1, "step"))
        self.check_wrong("inputs 1\nin 0\nends -1", (None, "ends"))

    def test_figures(self):
        self.assertEqual(read_row(f"inputs 0\nset {10 ** 20}\nends 0")[1], (("set", 10 ** 20),))
        self.assertEqual(read_row(f"inputs 0\nset -{10 ** 20}\nends 0")[1], (("set", -10 ** 20),))
        for number in ("9" * 21, "-" + "9" * 21, str(10 ** 20 + 1)):
            self.check_wrong(f"inputs 0\nset {number}\nends 0", (0, "step"))
            self.check_wrong(f"inputs {number}\nset 0\nends 0", (None, "inputs"))
            self.check_wrong(f"inputs 0\nset 0\nends {number}", (None, "ends"))
        for number in ("1" * 22, "-" + "1" * 22, "1" * 2000, "-" + "1" * 5000):
            self.check_bad(f"inputs 0\nset {number}\nends 0", 1)
            self.check_bad(f"inputs {number}\nset 0\nends 0", 0)
            self.check_bad(f"inputs 0\nset 0\nends {number}", 2)

    def test_how_many_numbers(self):
        for step in ("in", "in 0 0", "set", "set 0 0", "neg", "neg 0 0", "+ 0", "+ 0 0 0", "- 0", "*", "* 0 0 0", "0",
                     "0 0", "", "in 0 x", "/ 0 0", "IN 0", "plus 0 0", "ends 0", "inputs 1", "label a 0"):
            self.check_bad(f"inputs 1\nin 0\n{step}\nends 0", 2)

    def test_what_the_text_tells_is_looked_at_at_last(self):
        self.check_bad("inputs 99\nin 7\nends", 2)
        self.check_wrong("inputs 1\n" + "in 0\n" * 401 + "ends 0", (None, "steps"))
        self.check_wrong("inputs 1\nin 0\nends" + " 0" * 21, (None, "ends"))
        self.check_wrong("inputs 1\n" + "in 0\n" + "".join(f"* {k} {k}\n" for k in range(7)) + "ends 0", (7, "size"))
        self.assertEqual(len(read_row("inputs 20\n" + "in 19\n" * 400 + "ends" + " 0" * 20)[1]), 400)

    def test_other_figures_and_blanks_are_none(self):
        for number in ("\u0661", "\u00b2", "\uff11"):
            self.check_bad(f"inputs {number}\nset 0\nends 0", 0)
        for blank in ("\t", "\r", "\u00a0"):
            self.check_bad(f"inputs{blank}0\nset 0\nends 0", 0)
            self.check_bad(f"inputs 0{blank}\nset 0\nends 0", 0)

    def test_bent_texts(self):
        text = row_text((2, (("in", 0), ("in", 1), ("-", 0, 1), ("set", -30)), (2, 3)))
        told = 0
        for place in range(len(text) + 1):
            for sign in ("", " ", "\n", "-", "0", "1", "x", "neg"):
                for value in (text[:place] + sign + text[place:], text[:place] + sign + text[place + 1:]):
                    try:
                        row = read_row(value)
                    except (BadText, BadRow):
                        continue
                    told += 1
                    self.assertIsNone(long_error(row))
                    self.assertEqual(row_text(row), value)
        self.assertGreater(told, 10)


class PolyTextTest(unittest.TestCase):

    def test_examples(self):
        x, y = unknown(2, 0), unknown(2, 1)
        self.assertEqual(poly_text(times(plus(x, y), plus(x, y))), "1 x1^2 + 2 x0 x1 + 1 x0^2")
        self.assertEqual([poly_text(constant(2, -5)), poly_text(())], ["-5", "0"])

    def test_powers(self):
        poly = (((0, 0, 0), 4), ((0, 0, 1), -1), ((0, 2, 1), 7), ((1, 0, 0), -20), ((3, 1, 12), 1))
        self.assertEqual(poly_text(poly), "4 + -1 x2 + 7 x1^2 x2 + -20 x0 + 1 x0^3 x1 x2^12")

    def test_no_unknown(self):
        self.assertEqual([poly_text((((), 7),)), poly_text((((), -7),))], ["7", "-7"])

    def test_many_unknowns(self):
        self.assertEqual(poly_text(unknown(20, 19)), "1 x19")
        self.assertEqual(poly_text((((1,) * 20, 3),)), "3 " + " ".join(f"x{k}" for k in range(20)))

    def test_great_factors(self):
        for digits in (63, 64, 65, 127, 128, 129, 299, 300):
            for number in (10 ** digits, 10 ** digits - 1, 10 ** digits + 1, 7 * 10 ** digits + 10 ** (digits // 2)):
                self.assertEqual(poly_text((((), number),)), str(number))
                self.assertEqual(poly_text((((0, 2), -number),)), f"-{number} x1^2")

    def test_factors_of_rows_as_great_as_they_come(self):
        steps = [("set", 10 ** 20)]
        while len(steps) < 394:
            steps.append(("+", len(steps) - 1, len(steps) - 1))
        while len(steps) < 400:
            steps.append(("*", len(steps) - 1, len(steps) - 1))
        row = (0, tuple(steps), (399,))
        self.assertIsNone(long_error(row))
        text = poly_text(polys(row)[0])
        self.assertGreater(len(text), 8000)
        number = 0
        for figure in text:
            number = 10 * number + int(figure)
        self.assertEqual(number, (10 ** 20 * 2 ** 393) ** 64)

    def test_rows(self):
        self.assertEqual(poly_text(polys(S)[0]), "2 x0")
        self.assertEqual(poly_text(polys((1, (("in", 0), ("-", 0, 0)), (1,)))[0]), "0")

    def test_factors_are_not_changed(self):
        poly = scaled(unknown(2, 1), -3)
        self.assertEqual([poly_text(poly), poly_text(poly), poly], ["-3 x1", "-3 x1", (((0, 1), -3),)])


class AllTest(unittest.TestCase):

    def test_arguments_by_name(self):
        self.assertEqual(read_row(value=row_text(row=S)), S)
        self.assertEqual(poly_text(poly=()), "0")

    def test_any_value_leads_to_an_error_of_the_package(self):
        for value in bent(S):
            with self.assertRaises(BadText):
                read_row(value)


if __name__ == "__main__":
    unittest.main()
