"""Point 3: shift writes what a formula is when rows or columns are put in or taken out."""

import itertools
import random
import unittest

from cellforms.formulas import copy, shift, tidy
from cellforms.reading import read_formula
from cellforms.shifting import shifted_pieces
from tests.asking import LETTERS, NOT_A_FORMULA, TOO_LONG, WRONG_SHIFT, Unchanged, as_bytes, shifted, tidied
from tests.making import Maker, ShiftMaker, skeleton

ROWS_IN, ROWS_OUT, COLUMNS_IN, COLUMNS_OUT = 0, 1, 2, 3
SIZES = (256, 256, 26, 26)
MOST = 4294967295
SHIFTS = ((0, 0, 1), (0, 3, 7), (0, 255, 1), (0, 0, 256), (1, 0, 1), (1, 1, 2), (1, 255, 1), (1, 0, 256),
          (2, 0, 1), (2, 3, 7), (2, 25, 1), (2, 0, 26), (3, 0, 1), (3, 1, 2), (3, 25, 1), (3, 0, 26))
WRONG = ((4, 0, 1), (0, 0, 0), (1, 256, 1), (2, 0, 27), (3, 26, 1), (MOST, MOST, MOST))


class ShiftCase(unittest.TestCase):
    def becomes(self, what, at, many, text, form):
        with self.subTest(what=what, at=at, many=many, text=text):
            self.assertEqual(shifted(what, at, many, text), form)

    def stays(self, what, at, many, *texts):
        for text in texts:
            self.becomes(what, at, many, text, text)

    def lost(self, what, at, many, *texts):
        for text in texts:
            self.becomes(what, at, many, text, "#REF")

    def range_becomes(self, what, at, many, text, form):
        self.becomes(what, at, many, "SUM(" + text + ")", "SUM(" + form + ")")

    def range_stays(self, what, at, many, *ranges):
        for text in ranges:
            self.range_becomes(what, at, many, text, text)

    def range_lost(self, what, at, many, *ranges):
        for text in ranges:
            self.range_becomes(what, at, many, text, "#REF")

    def refused(self, what, at, many, *texts):
        for text in texts:
            self.becomes(what, at, many, text, NOT_A_FORMULA)

    def wrong(self, what, at, many, *texts):
        for text in texts or ("A1",):
            self.becomes(what, at, many, text, WRONG_SHIFT)


class Ordinary(ShiftCase):
    def test_the_answer_is_0_and_the_bytes(self):
        self.assertEqual(shift(0, 0, 2, [97, 49, 32, 43, 32, 48, 50]), [0, 65, 51, 43, 50])

    def test_the_order_of_what_is_handed_in(self):
        self.assertEqual(shift(what=0, at=1, many=2, p=[65, 50]), [0, 65, 52])
        self.becomes(0, 1, 2, "A1+A2+A3", "A1+A4+A5")
        self.becomes(0, 2, 1, "A1+A2+A3", "A1+A2+A4")

    def test_each_of_the_four(self):
        self.becomes(ROWS_IN, 1, 1, "A1+B2+C3", "A1+B3+C4")
        self.becomes(ROWS_OUT, 1, 1, "A1+B2+C3", "A1+#REF+C2")
        self.becomes(COLUMNS_IN, 1, 1, "A1+B2+C3", "A1+C2+D3")
        self.becomes(COLUMNS_OUT, 1, 1, "A1+B2+C3", "A1+#REF+B3")
        self.becomes(ROWS_IN, 1, 1, "SUM(A1:C3)", "SUM(A1:C4)")
        self.becomes(ROWS_OUT, 1, 1, "SUM(A1:C3)", "SUM(A1:C2)")
        self.becomes(COLUMNS_IN, 1, 1, "SUM(A1:C3)", "SUM(A1:D3)")
        self.becomes(COLUMNS_OUT, 1, 1, "SUM(A1:C3)", "SUM(A1:B3)")

    def test_each_place_and_range_is_shifted(self):
        self.becomes(ROWS_IN, 0, 1, "A1-A1/-A1*(A1+A1)", "A2-A2/-A2*(A2+A2)")
        self.becomes(ROWS_IN, 0, 1, "COUNT(A1,A1:B2,(A1),A1+1,C1)", "COUNT(A2,A2:B3,A2,A2+1,C2)")
        self.becomes(ROWS_IN, 0, 1, "IF(A1=A1,A1,A1)", "IF(A2=A2,A2,A2)")
        self.becomes(COLUMNS_OUT, 0, 1, "MAX(MIN(A1:B2),IF(A1>B1,C1,-D1))", "MAX(MIN(A1:A2),IF(#REF>A1,B1,-C1))")

    def test_what_is_no_place_stays(self):
        for what, at, many in SHIFTS:
            self.stays(what, at, many, "1", "12.5", '"A1"', '"SUM(A1:B2)"', '"$a1"', "#REF", "SUM(#REF,1)", "-1*(2+3)")
            self.stays(what, at, many, "#REF*#REF", "IF(1<2,3,4)", "MIN(1,2,3)", "COUNT(#REF)", "IF(#REF<>1,#REF,2)")

    def test_it_is_in_its_form(self):
        self.becomes(ROWS_IN, 1, 1, " sum ( b2 : a1 , 007.50 ) * ( c3 ) ", "SUM(A1:B3,7.5)*C4")
        self.becomes(COLUMNS_IN, 1, 1, "((a1+b1))-(c1-(d1))*(2)", "A1+C1-(D1-E1)*2")
        self.becomes(ROWS_OUT, 4, 1, "-((a1*2))", "-(A1*2)")
        self.becomes(COLUMNS_OUT, 4, 1, " a1 + 1.0 ", "A1+1")

    def test_where_nothing_is_moved_it_is_tidied(self):
        for messy, form in Maker(40).formulas(300):
            if "256" not in messy:
                self.becomes(ROWS_IN, 255, 1, messy, form)
                self.becomes(ROWS_OUT, 255, 1, messy, form)

    def test_what_is_lost_needs_no_brackets_but_those_around_it_stay(self):
        self.becomes(ROWS_OUT, 0, 1, "-(a1)", "-#REF")
        self.becomes(ROWS_OUT, 0, 1, "(a1)*(b1)", "#REF*#REF")
        self.becomes(ROWS_OUT, 0, 1, "(a1+b1)*3", "(#REF+#REF)*3")
        self.becomes(ROWS_OUT, 0, 1, "1-(a1-b1)", "1-(#REF-#REF)")
        self.becomes(ROWS_OUT, 0, 2, "SUM((a1),a1:b2)", "SUM(#REF,#REF)")

    def test_what_is_lost_stays_lost(self):
        gone = shifted(ROWS_OUT, 0, 1, "SUM(A1:B1)+A1")
        self.assertEqual(gone, "SUM(#REF)+#REF")
        self.stays(ROWS_IN, 0, 1, gone)


class Refusals(ShiftCase):
    def test_a_refusal_is_its_number_alone(self):
        self.assertEqual(shift(0, 0, 1, [43]), [-71])
        self.assertEqual(shift(4, 0, 1, [65, 49]), [-22])
        self.assertEqual(shift(1, 0, 1, as_bytes("+".join(["A1"] * 21))), [-28])

    def test_what_3_and_4(self):
        for what in range(4):
            self.becomes(what, 9, 1, "A1", "A1")
        for what in (4, 5, 6, 7, 8, 255, 256, 65536, 2 ** 31 - 1, 2 ** 31, MOST - 1, MOST):
            self.wrong(what, 0, 1, "A1", "1", "SUM(A1:B2)", "#REF")
            self.wrong(what, 9, 1)

    def test_many_0_and_1(self):
        for what, size in enumerate(SIZES):
            for at in (0, 1, size - 1, size, size + 1, MOST):
                self.wrong(what, at, 0, "A1", "1", "#REF")
            self.stays(what, size - 1, 1, "A1", "1", "#REF")

    def test_rows_together_256_and_257(self):
        for what in (ROWS_IN, ROWS_OUT):
            for at in (0, 1, 2, 25, 26, 27, 100, 127, 128, 254, 255):
                self.stays(what, at, 256 - at, "1")
                self.wrong(what, at, 257 - at, "1", "A1")
                self.wrong(what, at, 300, "1", "A1")
            self.wrong(what, 256, 1, "1", "A1")
            self.wrong(what, 257, 1, "1", "A1")

    def test_columns_together_26_and_27(self):
        for what in (COLUMNS_IN, COLUMNS_OUT):
            for at in range(26):
                self.stays(what, at, 26 - at, "1")
                self.wrong(what, at, 27 - at, "1", "A1")
                self.wrong(what, at, 256 - at, "1", "A1")
            self.wrong(what, 26, 1, "1", "A1")
            self.wrong(what, 27, 1, "1", "A1")

    def test_the_greatest_numbers(self):
        for what in range(4):
            # Some of these are 0 or small together if they are counted with 32 bits.
            for at, many in ((MOST, 1), (1, MOST), (MOST, MOST), (0, MOST), (MOST, 2), (2, MOST), (2 ** 31, 2 ** 31),
                             (MOST - 9, 12), (MOST, 0), (MOST - 1, 1), (2 ** 31, 1), (1, 2 ** 31)):
                self.wrong(what, at, many, "A1", "1", "SUM(A1:B2)", "#REF")
        for at, many in itertools.product((0, 1, MOST), repeat=2):
            self.wrong(MOST, at, many)

    def test_it_is_refused_whatever_the_formula_is(self):
        for what, at, many in WRONG:
            for messy, _ in Maker(41).formulas(60):
                self.wrong(what, at, many, messy)

    def test_what_is_no_formula(self):
        for what, at, many in SHIFTS:
            self.refused(what, at, many, "", " ", "+", "1+", "(A1", "A1)", "A1 B1", "A0", "A257", "A01", "AA1", "$", "a")
            self.refused(what, at, many, "A1:B2", "SUM(A1:)", "SUM()", "IF(A1,B1,C1)", "#ref", '"a', "SUM(A1:#REF)")
            self.refused(what, at, many, "-" * 17 + "A1", "(" * 17 + "A1" + ")" * 17, "SUM(1,2,3,4,5,6,7,8,9)")

    def test_what_is_no_formula_comes_ahead_of_a_wrong_shift(self):
        for what, at, many in WRONG:
            self.refused(what, at, many, "", "1+", "A257", "A0", "A1:B2", "#ref", "(" * 17 + "A1" + ")" * 17, '"a')

    def test_more_than_64_bytes_ahead_of_all_else(self):
        for what, at, many in SHIFTS + WRONG:
            self.refused(what, at, many, "A1" + " " * 63, " " * 65, "1" * 65, "+" * 80, "A1" + "+A1" * 21)
            self.assertEqual(shift(what, at, many, [255] * 65), [-71])
            self.assertEqual(shift(what, at, many, [None] * 65), [-71])
        self.assertEqual(shift(None, None, None, [None] * 65), [-71])

    def test_64_bytes_are_looked_at(self):
        self.becomes(ROWS_IN, 0, 1, "A1" + " " * 62, "A2")
        self.becomes(ROWS_OUT, 0, 1, " " * 62 + "A1", "#REF")

    def test_a_wrong_shift_comes_ahead_of_what_is_too_long(self):
        text = "A1" + "+A1" * 20
        self.becomes(ROWS_OUT, 0, 1, text, TOO_LONG)
        self.becomes(COLUMNS_OUT, 0, 1, text, TOO_LONG)
        for what, at, many in WRONG + ((1, 0, 257), (3, 0, 27), (1, 0, 0), (3, 0, 0)):
            self.wrong(what, at, many, text)

    def test_too_long_comes_behind_what_is_no_formula(self):
        self.refused(ROWS_OUT, 0, 1, "A1" + "+A1" * 20 + "+", "A1" + "+A1" * 20 + "(")

    def test_a_place_off_the_sheet_is_not_brought_onto_it(self):
        self.refused(ROWS_OUT, 0, 1, "A257", "SUM(A1:A257)")
        self.refused(ROWS_IN, 0, 1, "A0", "SUM(A0:A1)")


class PlacesPutIn(ShiftCase):
    def test_rows_before_at_and_behind(self):
        self.becomes(ROWS_IN, 4, 3, "B4+B5+B6", "B4+B8+B9")
        self.becomes(ROWS_IN, 0, 1, "B1", "B2")
        self.becomes(ROWS_IN, 255, 1, "B255+B256", "B255+#REF")

    def test_columns_before_at_and_behind(self):
        self.becomes(COLUMNS_IN, 4, 3, "D9+E9+F9", "D9+H9+I9")
        self.becomes(COLUMNS_IN, 0, 1, "A9", "B9")
        self.becomes(COLUMNS_IN, 25, 1, "Y9+Z9", "Y9+#REF")

    def test_held_or_not_is_the_same(self):
        for column, row in itertools.product(("", "$"), repeat=2):
            self.becomes(ROWS_IN, 4, 3, f"{column}E{row}4", f"{column}E{row}4")
            self.becomes(ROWS_IN, 4, 3, f"{column}E{row}5", f"{column}E{row}8")
            self.becomes(ROWS_IN, 4, 3, f"{column}E{row}6", f"{column}E{row}9")
            self.becomes(COLUMNS_IN, 4, 3, f"{column}D{row}5", f"{column}D{row}5")
            self.becomes(COLUMNS_IN, 4, 3, f"{column}E{row}5", f"{column}H{row}5")
            self.becomes(COLUMNS_IN, 4, 3, f"{column}F{row}5", f"{column}I{row}5")

    def test_just_on_the_sheet_and_off(self):
        for held in ("", "$"):
            self.becomes(ROWS_IN, 5, 10, f"C{held}246", f"C{held}256")
            self.lost(ROWS_IN, 5, 10, f"C{held}247", f"C{held}248", f"C{held}256")
            self.becomes(COLUMNS_IN, 5, 10, f"{held}P7", f"{held}Z7")
            self.lost(COLUMNS_IN, 5, 10, f"{held}Q7", f"{held}R7", f"{held}Z7")

    def test_all_that_lies_there_comes_off(self):
        self.lost(ROWS_IN, 0, 256, "A1", "Z256", "$M$128")
        self.lost(COLUMNS_IN, 0, 26, "A1", "Z256", "$M$128")
        self.lost(ROWS_IN, 100, 156, "A101", "A256")
        self.stays(ROWS_IN, 100, 156, "A1", "A100")
        self.lost(COLUMNS_IN, 10, 16, "K1", "Z1")
        self.stays(COLUMNS_IN, 10, 16, "A1", "J1")

    def test_rows_leave_columns_as_they_are_and_columns_rows(self):
        self.stays(ROWS_IN, 20, 9, "Z20", "A20", "$V$1")
        self.stays(COLUMNS_IN, 20, 6, "T256", "T100", "$A$25")
        self.becomes(ROWS_IN, 20, 9, "Z21", "Z30")
        self.becomes(COLUMNS_IN, 20, 4, "V256", "Z256")

    def test_from_every_row(self):
        for at, many in ((0, 1), (0, 255), (1, 1), (9, 90), (128, 128), (254, 1), (254, 2), (255, 1)):
            for row in range(256):
                there = row if row < at else row + many
                form = "C" + str(there + 1) if there < 256 else "#REF"
                self.becomes(ROWS_IN, at, many, "C" + str(row + 1), form)

    def test_from_every_column(self):
        for at in range(26):
            for many in range(1, 27 - at):
                for column, letter in enumerate(LETTERS):
                    there = column if column < at else column + many
                    form = LETTERS[there] + "7" if there < 26 else "#REF"
                    self.becomes(COLUMNS_IN, at, many, letter + "7", form)


class PlacesTakenOut(ShiftCase):
    def test_rows_before_there_and_behind(self):
        self.becomes(ROWS_OUT, 4, 3, "B4+B5+B6+B7+B8+B9", "B4+#REF+#REF+#REF+B5+B6")
        self.becomes(ROWS_OUT, 0, 1, "B1+B2", "#REF+B1")
        self.becomes(ROWS_OUT, 255, 1, "B255+B256", "B255+#REF")

    def test_columns_before_there_and_behind(self):
        self.becomes(COLUMNS_OUT, 4, 3, "D9+E9+F9+G9+H9+I9", "D9+#REF+#REF+#REF+E9+F9")
        self.becomes(COLUMNS_OUT, 0, 1, "A9+B9", "#REF+A9")
        self.becomes(COLUMNS_OUT, 25, 1, "Y9+Z9", "Y9+#REF")

    def test_held_or_not_is_the_same(self):
        for column, row in itertools.product(("", "$"), repeat=2):
            self.becomes(ROWS_OUT, 4, 3, f"{column}E{row}4", f"{column}E{row}4")
            self.lost(ROWS_OUT, 4, 3, f"{column}E{row}5", f"{column}E{row}6", f"{column}E{row}7")
            self.becomes(ROWS_OUT, 4, 3, f"{column}E{row}8", f"{column}E{row}5")
            self.becomes(COLUMNS_OUT, 4, 3, f"{column}D{row}5", f"{column}D{row}5")
            self.lost(COLUMNS_OUT, 4, 3, f"{column}E{row}5", f"{column}F{row}5", f"{column}G{row}5")
            self.becomes(COLUMNS_OUT, 4, 3, f"{column}H{row}5", f"{column}E{row}5")

    def test_all_is_taken_out(self):
        self.lost(ROWS_OUT, 0, 256, "A1", "Z256", "$M$128")
        self.lost(COLUMNS_OUT, 0, 26, "A1", "Z256", "$M$128")

    def test_rows_leave_columns_as_they_are_and_columns_rows(self):
        self.stays(ROWS_OUT, 20, 9, "Z20", "A20", "$V$1")
        self.stays(COLUMNS_OUT, 20, 6, "T256", "T25", "$A$21")
        self.becomes(ROWS_OUT, 2, 9, "C12", "C3")
        self.becomes(COLUMNS_OUT, 2, 9, "L3", "C3")

    def test_from_every_row(self):
        for at, many in ((0, 1), (0, 255), (1, 1), (9, 90), (128, 128), (254, 1), (254, 2), (255, 1)):
            for row in range(256):
                there = row if row < at else row - many
                form = "#REF" if at <= row < at + many else "C" + str(there + 1)
                self.becomes(ROWS_OUT, at, many, "C" + str(row + 1), form)

    def test_from_every_column(self):
        for at in range(26):
            for many in range(1, 27 - at):
                for column, letter in enumerate(LETTERS):
                    there = column if column < at else column - many
                    form = "#REF" if at <= column < at + many else LETTERS[there] + "7"
                    self.becomes(COLUMNS_OUT, at, many, letter + "7", form)


class RangesPutIn(ShiftCase):
    def test_wholly_before(self):
        self.range_stays(ROWS_IN, 4, 3, "B1:C4", "B2:C3", "B4:C4", "$B$2:$C$4")
        self.range_stays(COLUMNS_IN, 4, 3, "A1:D9", "B5:C200", "D2:D3", "$B$2:$D$4")

    def test_across(self):
        self.range_becomes(ROWS_IN, 4, 3, "B4:C5", "B4:C8")
        self.range_becomes(ROWS_IN, 4, 3, "B1:C9", "B1:C12")
        self.range_becomes(ROWS_IN, 4, 3, "$B$4:$C$5", "$B$4:$C$8")
        self.range_becomes(COLUMNS_IN, 4, 3, "D1:E2", "D1:H2")
        self.range_becomes(COLUMNS_IN, 4, 3, "A1:J2", "A1:M2")
        self.range_becomes(COLUMNS_IN, 4, 3, "$D$1:$E$2", "$D$1:$H$2")

    def test_wholly_behind(self):
        self.range_becomes(ROWS_IN, 4, 3, "B5:C6", "B8:C9")
        self.range_becomes(ROWS_IN, 4, 3, "B5:C5", "B8:C8")
        self.range_becomes(ROWS_IN, 4, 3, "$B$6:$C$9", "$B$9:$C$12")
        self.range_becomes(COLUMNS_IN, 4, 3, "E1:F2", "H1:I2")
        self.range_becomes(COLUMNS_IN, 4, 3, "E1:E2", "H1:H2")
        self.range_becomes(COLUMNS_IN, 4, 3, "$F$1:$I$2", "$I$1:$L$2")

    def test_from_any_corner(self):
        for text in ("B4:D6", "D6:B4", "B6:D4", "D4:B6"):
            self.range_becomes(ROWS_IN, 4, 3, text, "B4:D9")
            self.range_becomes(COLUMNS_IN, 2, 3, text, "B4:G6")
            self.range_becomes(ROWS_OUT, 4, 1, text, "B4:D5")
            self.range_becomes(COLUMNS_OUT, 1, 1, text, "B4:C6")

    def test_the_end_comes_off(self):
        for held in ("", "$"):
            self.range_becomes(ROWS_IN, 4, 10, f"B4:C{held}246", f"B4:C{held}256")
            self.range_becomes(ROWS_IN, 4, 10, f"B4:C{held}247", f"B4:C{held}256")
            self.range_becomes(ROWS_IN, 4, 10, f"B4:C{held}256", f"B4:C{held}256")
            self.range_becomes(COLUMNS_IN, 4, 10, f"D1:{held}P2", f"D1:{held}Z2")
            self.range_becomes(COLUMNS_IN, 4, 10, f"D1:{held}Q2", f"D1:{held}Z2")
            self.range_becomes(COLUMNS_IN, 4, 10, f"D1:{held}Z2", f"D1:{held}Z2")

    def test_what_ends_with_the_sheet_goes_on_doing_so(self):
        for at in range(1, 256):
            self.range_stays(ROWS_IN, at, 256 - at, "A1:Z256")
            self.range_stays(ROWS_IN, at, 1, "A1:B256")
        for at in range(1, 26):
            self.range_stays(COLUMNS_IN, at, 26 - at, "A1:Z256")
            self.range_stays(COLUMNS_IN, at, 1, "A1:Z2")

    def test_all_behind_at_comes_off_and_yet_it_ends_with_the_sheet(self):
        self.range_becomes(ROWS_IN, 200, 56, "A200:A201", "A200:A256")
        self.range_becomes(ROWS_IN, 200, 56, "A1:A202", "A1:A256")
        self.range_becomes(COLUMNS_IN, 20, 6, "T1:U1", "T1:Z1")

    def test_wholly_behind_of_which_the_end_comes_off(self):
        self.range_becomes(ROWS_IN, 4, 10, "B240:C250", "B250:C256")
        self.range_becomes(ROWS_IN, 4, 10, "B245:C256", "B255:C256")
        self.range_becomes(ROWS_IN, 4, 10, "B246:C256", "B256:C256")
        self.range_becomes(COLUMNS_IN, 4, 10, "M1:R2", "W1:Z2")
        self.range_becomes(COLUMNS_IN, 4, 10, "O1:Z2", "Y1:Z2")
        self.range_becomes(COLUMNS_IN, 4, 10, "P1:Z2", "Z1:Z2")

    def test_the_beginning_comes_off(self):
        self.range_lost(ROWS_IN, 4, 10, "B247:C256", "B247:C247", "B256:C256", "$B$247:$C$256", "C256:B247")
        self.range_lost(COLUMNS_IN, 4, 10, "Q1:Z2", "Q1:Q2", "Z1:Z2", "$Q$1:$Z$2", "Z2:Q1")
        self.range_lost(ROWS_IN, 0, 256, "A1:Z256", "A1:A1")
        self.range_lost(COLUMNS_IN, 0, 26, "A1:Z256", "A1:A1")
        self.range_lost(ROWS_IN, 255, 1, "A256:B256")
        self.range_lost(COLUMNS_IN, 25, 1, "Z1:Z9")

    def test_ends_become_like_ones(self):
        self.range_becomes(ROWS_IN, 254, 1, "A$255:A256", "A256:A$256")
        self.range_becomes(ROWS_IN, 254, 1, "A255:A$256", "A256:A$256")
        self.range_becomes(ROWS_IN, 254, 1, "$A$255:B256", "$A256:B$256")
        self.range_becomes(ROWS_IN, 254, 1, "A$255:A$256", "A$256:A$256")
        self.range_becomes(COLUMNS_IN, 24, 1, "$Y1:Z2", "Z1:$Z2")
        self.range_becomes(COLUMNS_IN, 24, 1, "Y1:$Z2", "Z1:$Z2")
        self.range_becomes(COLUMNS_IN, 24, 1, "$Y$1:Z2", "Z$1:$Z2")

    def test_like_ends_part_no_more_than_they_did(self):
        self.range_becomes(ROWS_IN, 0, 1, "A1:B$1", "A2:B$2")
        self.range_becomes(COLUMNS_IN, 0, 1, "A1:$A2", "B1:$B2")

    def test_rows_leave_columns_as_they_are_and_columns_rows(self):
        self.range_becomes(ROWS_IN, 1, 9, "A1:Z5", "A1:Z14")
        self.range_becomes(COLUMNS_IN, 1, 9, "A1:E256", "A1:N256")
        self.range_becomes(ROWS_IN, 1, 9, "$A1:B$5", "$A1:B$14")
        self.range_becomes(COLUMNS_IN, 1, 9, "A$1:$B5", "A$1:$K5")


class RangesTakenOut(ShiftCase):
    def test_wholly_before(self):
        self.range_stays(ROWS_OUT, 4, 3, "B1:C4", "B2:C3", "B4:C4", "$B$2:$C$4")
        self.range_stays(COLUMNS_OUT, 4, 3, "A1:D9", "B5:C200", "D2:D3", "$B$2:$D$4")

    def test_wholly_behind(self):
        self.range_becomes(ROWS_OUT, 4, 3, "B8:C9", "B5:C6")
        self.range_becomes(ROWS_OUT, 4, 3, "B8:C8", "B5:C5")
        self.range_becomes(ROWS_OUT, 4, 3, "$B$9:$C$256", "$B$6:$C$253")
        self.range_becomes(COLUMNS_OUT, 4, 3, "H1:I2", "E1:F2")
        self.range_becomes(COLUMNS_OUT, 4, 3, "H1:H2", "E1:E2")
        self.range_becomes(COLUMNS_OUT, 4, 3, "$I$1:$Z$2", "$F$1:$W$2")

    def test_a_part_at_the_beginning(self):
        for held in ("", "$"):
            for row in (5, 6, 7):
                self.range_becomes(ROWS_OUT, 4, 3, f"B{held}{row}:C9", f"B{held}5:C6")
                self.range_becomes(ROWS_OUT, 4, 3, f"B{held}{row}:C10", f"B{held}5:C7")
            for column in "EFG":
                self.range_becomes(COLUMNS_OUT, 4, 3, f"{held}{column}1:I2", f"{held}E1:F2")
                self.range_becomes(COLUMNS_OUT, 4, 3, f"{held}{column}1:J2", f"{held}E1:G2")
        self.range_becomes(ROWS_OUT, 0, 2, "A1:A3", "A1:A1")
        self.range_becomes(COLUMNS_OUT, 0, 2, "B1:D1", "A1:B1")

    def test_a_part_in_the_middle(self):
        self.range_becomes(ROWS_OUT, 4, 3, "B4:C8", "B4:C5")
        self.range_becomes(ROWS_OUT, 4, 3, "$B$1:$C$256", "$B$1:$C$253")
        self.range_becomes(COLUMNS_OUT, 4, 3, "D1:H2", "D1:E2")
        self.range_becomes(COLUMNS_OUT, 4, 3, "$A$1:$Z$2", "$A$1:$W$2")

    def test_a_part_at_the_end(self):
        for held in ("", "$"):
            for row in (5, 6, 7):
                self.range_becomes(ROWS_OUT, 4, 3, f"B3:C{held}{row}", f"B3:C{held}4")
                self.range_becomes(ROWS_OUT, 4, 3, f"B4:C{held}{row}", f"B4:C{held}4")
            for column in "EFG":
                self.range_becomes(COLUMNS_OUT, 4, 3, f"C1:{held}{column}2", f"C1:{held}D2")
                self.range_becomes(COLUMNS_OUT, 4, 3, f"D1:{held}{column}2", f"D1:{held}D2")
        self.range_becomes(ROWS_OUT, 250, 6, "A1:A256", "A1:A250")
        self.range_becomes(COLUMNS_OUT, 20, 6, "A1:Z1", "A1:T1")

    def test_the_whole(self):
        self.range_lost(ROWS_OUT, 4, 3, "B5:C7", "B5:C5", "B6:C6", "B7:C7", "B5:C6", "B6:C7", "$B$5:$C$7", "C7:B5")
        self.range_lost(COLUMNS_OUT, 4, 3, "E1:G2", "E1:E2", "F1:F2", "G1:G2", "E1:F2", "F1:G2", "$E$1:$G$2", "G2:E1")
        self.range_lost(ROWS_OUT, 0, 256, "A1:Z256", "A1:A1", "Z256:Z256")
        self.range_lost(COLUMNS_OUT, 0, 26, "A1:Z256", "A1:A1", "Z256:Z256")
        self.range_lost(ROWS_OUT, 0, 1, "A1:Z1")
        self.range_lost(COLUMNS_OUT, 0, 1, "A1:A256")

    def test_all_but_the_first_or_the_last(self):
        self.range_becomes(ROWS_OUT, 1, 255, "A1:Z256", "A1:Z1")
        self.range_becomes(ROWS_OUT, 0, 255, "A1:Z256", "A1:Z1")
        self.range_becomes(COLUMNS_OUT, 1, 25, "A1:Z256", "A1:A256")
        self.range_becomes(COLUMNS_OUT, 0, 25, "A1:Z256", "A1:A256")

    def test_ends_become_like_ones(self):
        self.range_becomes(ROWS_OUT, 1, 1, "A$1:A2", "A1:A$1")
        self.range_becomes(ROWS_OUT, 0, 1, "A$1:A2", "A1:A$1")
        self.range_becomes(ROWS_OUT, 0, 1, "A1:A$2", "A1:A$1")
        self.range_becomes(ROWS_OUT, 1, 1, "$A$1:B2", "$A1:B$1")
        self.range_becomes(COLUMNS_OUT, 1, 1, "$A1:B2", "A1:$A2")
        self.range_becomes(COLUMNS_OUT, 0, 1, "$A1:B2", "A1:$A2")
        self.range_becomes(COLUMNS_OUT, 0, 1, "A1:$B2", "A1:$A2")
        self.range_becomes(COLUMNS_OUT, 1, 1, "$A$1:B2", "A$1:$A2")

    def test_rows_leave_columns_as_they_are_and_columns_rows(self):
        self.range_becomes(ROWS_OUT, 1, 3, "A1:Z5", "A1:Z2")
        self.range_becomes(COLUMNS_OUT, 1, 3, "A1:E256", "A1:B256")
        self.range_becomes(ROWS_OUT, 1, 3, "B2:D5", "B2:D2")
        self.range_becomes(COLUMNS_OUT, 1, 3, "B2:E4", "B2:B4")


class TooLong(ShiftCase):
    def test_64_and_65_bytes_with_a_place_whose_row_is_longer(self):
        filled = "+1" * 29
        self.assertEqual(len("A100+A1" + filled), 65)
        self.becomes(ROWS_IN, 1, 1, "A99+A1" + filled, TOO_LONG)
        self.becomes(ROWS_IN, 99, 1, "A99+A1" + filled, "A99+A1" + filled)
        self.becomes(ROWS_IN, 1, 1, "A9+A1" + filled, "A10+A1" + filled)
        self.assertEqual(len(shifted(ROWS_IN, 1, 1, "A9+A1" + filled)), 64)
        self.becomes(ROWS_IN, 1, 1, "A9+A$9" + filled, TOO_LONG)

    def test_64_and_65_bytes_with_a_place_that_is_lost(self):
        filled = "1" + "+1" * 29
        self.assertEqual(len(filled + "-#REF"), 64)
        for what in (ROWS_OUT, COLUMNS_OUT):
            self.becomes(what, 0, 1, filled + "-A1", filled + "-#REF")
            self.becomes(what, 0, 1, filled + "1-A1", TOO_LONG)
            self.becomes(what, 1, 1, filled + "1-A1", filled + "1-A1")
        self.becomes(COLUMNS_IN, 0, 1, filled + "-Z1", filled + "-#REF")
        self.becomes(COLUMNS_IN, 0, 1, filled + "1-Z1", TOO_LONG)

    def test_64_and_65_bytes_with_a_range_whose_rows_are_longer(self):
        filled = "+1" * 25
        text = "SUM(A9:A99)" + filled
        self.becomes(ROWS_IN, 0, 1, text + "1", "SUM(A10:A100)" + filled + "1")
        self.assertEqual(len(shifted(ROWS_IN, 0, 1, text + "1")), 64)
        self.becomes(ROWS_IN, 0, 1, text + "11", TOO_LONG)
        self.becomes(ROWS_IN, 9, 1, text + "11", "SUM(A9:A100)" + filled + "11")
        self.becomes(ROWS_IN, 9, 1, text + "111", TOO_LONG)

    def test_64_bytes_that_stay_64(self):
        text = "A1+" * 20 + "A100"
        self.assertEqual(len(text), 64)
        self.becomes(COLUMNS_IN, 0, 1, text, "B1+" * 20 + "B100")
        self.becomes(ROWS_IN, 0, 1, text, "A2+" * 20 + "A101")

    def test_what_is_lost_may_be_shorter(self):
        text = "SUM($A$100:B$200)" + "+1" * 23 + "1"
        self.assertEqual(len(text), 64)
        self.becomes(ROWS_OUT, 90, 120, text, "SUM(#REF)" + "+1" * 23 + "1")

    def test_only_what_is_written_is_measured(self):
        self.becomes(ROWS_OUT, 0, 1, " " * 40 + "((A1+A1))*0001.50     ", "(#REF+#REF)*1.5")
        self.becomes(ROWS_OUT, 0, 1, "(A1)+" * 12 + "(A1)", "#REF+" * 12 + "#REF")
        self.becomes(COLUMNS_OUT, 0, 1, "A1+" * 12 + "A1", "#REF+" * 12 + "#REF")
        self.assertEqual(len("#REF+" * 12 + "#REF"), 64)
        self.becomes(COLUMNS_OUT, 0, 1, "A1+" * 12 + "-A1", TOO_LONG)


class Made(unittest.TestCase):
    def shifts(self, seed):
        chance = random.Random(seed)
        for shifting in SHIFTS:
            yield shifting
        for _ in range(150):
            what = chance.randrange(4)
            at = chance.randrange(SIZES[what])
            yield what, at, chance.randint(1, SIZES[what] - at)
        for _ in range(100):
            what = chance.randrange(4)
            at = chance.choice((0, 1, 2, 8, SIZES[what] - 5, SIZES[what] - 4))
            yield what, at, chance.randint(1, 4)

    def test_made_formulas(self):
        for seed, shifting in enumerate(self.shifts(31)):
            for messy, form in ShiftMaker(seed, *shifting).formulas(40):
                expected = form if len(form) <= 64 else TOO_LONG
                self.assertEqual(shifted(*shifting, messy), expected, (shifting, messy))

    def test_made_formulas_that_come_to_64_bytes_and_above(self):
        lengths = {}
        for seed, shifting in enumerate(self.shifts(32)):
            for messy, form in ShiftMaker(seed, *shifting).long_formulas(20):
                lengths[len(form)] = True
                expected = form if len(form) <= 64 else TOO_LONG
                self.assertEqual(shifted(*shifting, messy), expected, (shifting, messy))
        self.assertLess({60, 61, 62, 63, 64, 65, 66, 67, 68}, set(lengths))

    def test_every_range_of_columns(self):
        for what in (COLUMNS_IN, COLUMNS_OUT):
            for at in range(26):
                for many in range(1, 27 - at):
                    maker = ShiftMaker(33, what, at, many)
                    for first, last in ((0, 0), (0, 25), (3, 7), (6, 6), (12, 24), (24, 25), (25, 25)):
                        ends = [((first, 1), (8, 0)), ((last, 0), (8, 1))]
                        moved = maker.moved_range(*ends)
                        form = "#REF"
                        if moved:
                            (left, right), rows = sorted(moved[0]), moved[1]
                            form = maker.placed(left, rows[0]) + ":" + maker.placed(right, rows[1])
                        text = ":".join(maker.placed(*end) for end in ends)
                        self.assertEqual(shifted(what, at, many, f"SUM({text})"), f"SUM({form})", (what, at, many))

    def test_read_again_it_is_the_same_formula_and_written_the_same(self):
        for seed, shifting in enumerate(self.shifts(34)):
            for messy, _ in ShiftMaker(seed + 1000, *shifting).formulas(20):
                answer = shift(*shifting, as_bytes(messy))
                if answer != [TOO_LONG]:
                    moved = shifted_pieces(read_formula(as_bytes(messy)), *shifting)
                    self.assertEqual(read_formula(answer[1:]), moved, messy)
                    self.assertEqual(tidy(answer[1:]), answer, messy)
                    self.assertEqual(copy(0, 0, answer[1:]), answer, messy)

    def test_what_is_tidied_first_is_shifted_the_same(self):
        for seed, shifting in enumerate(self.shifts(35)):
            for messy, _ in ShiftMaker(seed + 2000, *shifting).formulas(20):
                self.assertEqual(shifted(*shifting, tidied(messy)), shifted(*shifting, messy), (shifting, messy))

    def test_what_is_put_in_is_taken_out_again(self):
        for seed, (what, at, many) in enumerate(self.shifts(36)):
            if what in (ROWS_OUT, COLUMNS_OUT):
                continue
            for messy, _ in Maker(seed + 3000).formulas(20):
                there = shifted(what, at, many, messy)
                # What comes off the sheet can't be brought back, and a range that's cut neither.
                last = "256" if what == ROWS_IN else "Z"
                if there != TOO_LONG and there.count("#REF") == messy.count("#REF") and last not in there:
                    self.assertEqual(shifted(what + 1, at, many, there), tidied(messy), (what, at, many, messy))

    def test_nothing_but_places_and_ranges_changes(self):
        for seed, shifting in enumerate(self.shifts(37)):
            for messy, _ in ShiftMaker(seed + 4000, *shifting).formulas(10):
                answer = shift(*shifting, as_bytes(messy))
                if answer != [TOO_LONG]:
                    self.assertEqual(skeleton(answer[1:]), skeleton(as_bytes(messy)), messy)


class Handing(unittest.TestCase):
    TEXTS = ("", "sum( b2:a1 , 007.50 )", "(a1)", '"a1"', "a1+", "-(a1+$b2)", " " * 65, "(" * 17, "IF(A1<2,$C$3,d4)",
             "A1" + "+A1" * 20)

    def test_the_list_stays_as_it_was(self):
        for text in self.TEXTS:
            for what, at, many in SHIFTS + WRONG:
                p = as_bytes(text)
                shift(what, at, many, p)
                self.assertEqual(p, as_bytes(text))

    def test_the_list_is_not_changed_for_a_while_either(self):
        for text in self.TEXTS:
            for what, at, many in SHIFTS + WRONG:
                answer = shift(what, at, many, as_bytes(text))
                self.assertEqual(shift(what, at, many, Unchanged(as_bytes(text))), answer)

    def test_what_is_given_back_is_a_list_of_its_own(self):
        for text in self.TEXTS:
            for what, at, many in SHIFTS + WRONG:
                p = as_bytes(text)
                first = shift(what, at, many, p)
                kept = list(first)
                first.append(1)
                first[0] = 5
                self.assertEqual(p, as_bytes(text))
                self.assertEqual(shift(what, at, many, p), kept)

    def test_it_holds_whole_numbers_alone(self):
        for text in self.TEXTS:
            for what, at, many in SHIFTS + WRONG:
                answer = shift(what, at, many, as_bytes(text))
                self.assertIs(type(answer), list)
                self.assertEqual({type(number) for number in answer}, {int})

    def test_nothing_is_kept_between_calls(self):
        asked = list(itertools.product(SHIFTS + WRONG, self.TEXTS))
        alone = [shift(what, at, many, as_bytes(text)) for (what, at, many), text in asked]
        turned = [shift(what, at, many, as_bytes(text)) for (what, at, many), text in reversed(asked)]
        self.assertEqual(alone, list(reversed(turned)))


if __name__ == "__main__":
    unittest.main()
