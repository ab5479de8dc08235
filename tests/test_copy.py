"""Point 2: copy writes what a formula is in another cell, and refuses what tidy refuses."""

import itertools
import random
import unittest

from cellforms.formulas import copy, tidy
from cellforms.moving import copied_pieces
from cellforms.reading import read_formula
from tests.asking import LETTERS, NOT_A_FORMULA, TOO_LONG, Unchanged, as_bytes, copied, tidied
from tests.making import Maker, skeleton

LEAST = -2147483648
MOST = 2147483647
MOVES = ((0, 0), (1, 0), (0, 1), (-1, -1), (3, 7), (-25, 255), (25, -255), (26, 256), (LEAST, MOST), (MOST, LEAST))


class CopyCase(unittest.TestCase):
    def becomes(self, columns, rows, text, form):
        with self.subTest(columns=columns, rows=rows, text=text):
            self.assertEqual(copied(columns, rows, text), form)

    def stays(self, columns, rows, *texts):
        for text in texts:
            self.becomes(columns, rows, text, text)

    def lost(self, columns, rows, *texts):
        for text in texts:
            self.becomes(columns, rows, text, "#REF")

    def lost_range(self, columns, rows, *ranges):
        for text in ranges:
            self.becomes(columns, rows, "SUM(" + text + ")", "SUM(#REF)")

    def refused(self, columns, rows, *texts):
        for text in texts:
            self.becomes(columns, rows, text, NOT_A_FORMULA)


class Ordinary(CopyCase):
    def test_the_answer_is_0_and_the_bytes(self):
        self.assertEqual(copy(1, 2, [97, 49, 32, 43, 32, 48, 50]), [0, 66, 51, 43, 50])

    def test_columns_are_handed_in_ahead_of_rows(self):
        self.becomes(1, 0, "A1", "B1")
        self.becomes(0, 1, "A1", "A2")
        self.assertEqual(copy(columns=2, rows=3, p=[65, 49]), [0, 67, 52])

    def test_ordinary_formulas(self):
        self.becomes(2, 1, "A1+B2*C3", "C2+D3*E4")
        self.becomes(-1, -1, "SUM(B2:C3,$D4)/E$5", "SUM(A1:B2,$D3)/D$5")
        self.becomes(1, 1, 'IF(A1>=$B$2,-C3,MAX(D4:E5,"A1",1))', 'IF(B2>=$B$2,-D4,MAX(E5:F6,"A1",1))')

    def test_each_place_moves(self):
        self.becomes(1, 1, "A1-A1/-A1*(A1+A1)", "B2-B2/-B2*(B2+B2)")
        self.becomes(1, 1, "COUNT(A1,A1:B2,(A1),A1+1,C1)", "COUNT(B2,B2:C3,B2,B2+1,D2)")
        self.becomes(1, 1, "IF(A1=A1,A1,A1)", "IF(B2=B2,B2,B2)")
        self.becomes(-1, 0, "A1+B1+A1+C1", "#REF+A1+#REF+B1")

    def test_what_is_no_place_stays(self):
        self.stays(3, 4, "1", "12.5", '"A1"', '"SUM(A1:B2)"', '"$a1"', "#REF", "SUM(#REF,1)", "-1*(2+3)")
        self.stays(-100, -1000, "1", '"A1"', "#REF", "#REF*#REF", "IF(1<2,3,4)", "MIN(1,2,3)", "COUNT(#REF)")

    def test_it_is_in_its_form(self):
        self.becomes(1, 1, " sum ( b2 : a1 , 007.50 ) * ( c3 ) ", "SUM(B2:C3,7.5)*D4")
        self.becomes(1, 1, "((a1+b1))-(c1-(d1))*(2)", "B2+C2-(D2-E2)*2")
        self.becomes(1, 1, "-((a1*2))", "-(B2*2)")

    def test_what_is_lost_needs_no_brackets_but_those_around_it_stay(self):
        self.becomes(-1, 0, "-(a1)", "-#REF")
        self.becomes(-1, 0, "(a1)*(a2)", "#REF*#REF")
        self.becomes(-1, 0, "(a1+a2)*3", "(#REF+#REF)*3")
        self.becomes(-1, 0, "1-(a1-a2)", "1-(#REF-#REF)")
        self.becomes(-1, 0, "SUM((a1),a1:b2)", "SUM(#REF,#REF)")

    def test_0_columns_and_0_rows(self):
        for messy, form in Maker(20).formulas(500):
            self.becomes(0, 0, messy, form)


class Places(CopyCase):
    def test_each_of_column_and_row_held_or_not(self):
        self.becomes(2, 3, "D5", "F8")
        self.becomes(2, 3, "$D5", "$D8")
        self.becomes(2, 3, "D$5", "F$5")
        self.becomes(2, 3, "$D$5", "$D$5")
        self.becomes(-2, -3, "D5", "B2")
        self.becomes(-2, -3, "$D5", "$D2")
        self.becomes(-2, -3, "D$5", "B$5")
        self.becomes(-2, -3, "$D$5", "$D$5")
        self.becomes(2, -3, "d5+$d5+d$5+$d$5", "F2+$D2+F$5+$D$5")
        self.becomes(-2, 3, "d5+$d5+d$5+$d$5", "B8+$D8+B$5+$D$5")

    def test_from_every_column_to_every_column(self):
        for column, letter in enumerate(LETTERS):
            for columns in range(-28, 29):
                there = column + columns
                on_sheet = 0 <= there < 26
                self.becomes(columns, 0, letter + "7", LETTERS[there] + "7" if on_sheet else "#REF")
                self.becomes(columns, 0, letter + "$7", LETTERS[there] + "$7" if on_sheet else "#REF")
                self.stays(columns, 0, "$" + letter + "7", "$" + letter + "$7")

    def test_from_every_row_to_every_row_and_off(self):
        for row in range(1, 257):
            for there in (-1000, -255, -1, 0, 1, 2, 9, 10, 99, 100, 128, 255, 256, 257, 258, 512, 1000):
                rows = there - row
                on_sheet = 1 <= there <= 256
                self.becomes(0, rows, "C" + str(row), "C" + str(there) if on_sheet else "#REF")
                self.becomes(0, rows, "$C" + str(row), "$C" + str(there) if on_sheet else "#REF")
                self.stays(0, rows, "C$" + str(row), "$C$" + str(row))

    def test_from_corner_to_corner(self):
        self.becomes(25, 255, "A1", "Z256")
        self.becomes(-25, -255, "Z256", "A1")
        self.becomes(25, -255, "A256", "Z1")
        self.becomes(-25, 255, "Z1", "A256")


class OffTheSheet(CopyCase):
    def test_a_place_on_each_side(self):
        self.lost(-1, 0, "A5", "A$5")
        self.lost(1, 0, "Z5", "Z$5")
        self.lost(0, -1, "C1", "$C1")
        self.lost(0, 1, "C256", "$C256")

    def test_a_place_just_on_it_on_each_side(self):
        self.becomes(-1, 0, "B5", "A5")
        self.becomes(1, 0, "Y5", "Z5")
        self.becomes(0, -1, "C2", "C1")
        self.becomes(0, 1, "C255", "C256")

    def test_what_is_held_does_not_come_off(self):
        self.stays(-1, 0, "$A5", "$A$5")
        self.stays(1, 0, "$Z5", "$Z$5")
        self.stays(0, -1, "C$1", "$C$1")
        self.stays(0, 1, "C$256", "$C$256")

    def test_one_of_column_and_row_is_enough(self):
        self.lost(-1, 1, "A5", "A$5")
        self.becomes(-1, 1, "$A5", "$A6")
        self.lost(1, -1, "C1", "$C1")
        self.becomes(1, -1, "C$1", "D$1")
        self.lost(-1, -1, "A1", "$A1", "A$1")
        self.stays(-1, -1, "$A$1")

    def test_a_range_with_both_ends_off_on_each_side(self):
        self.lost_range(-3, 0, "A5:C6", "A$5:C$6", "C6:A5")
        self.lost_range(3, 0, "X5:Z6", "X$5:Z$6", "Z6:X5")
        self.lost_range(0, -3, "C1:D3", "$C1:$D3", "D3:C1")
        self.lost_range(0, 3, "C254:D256", "$C254:$D256", "D256:C254")

    def test_a_range_with_one_end_off_on_each_side(self):
        self.lost_range(-1, 0, "A5:C6", "A5:$C6", "$C5:A6", "C5:A6", "A$5:C$6")
        self.lost_range(1, 0, "X5:Z6", "$X5:Z6", "Z5:$X6", "Z5:X6", "X$5:Z$6")
        self.lost_range(0, -1, "C1:D3", "C1:D$3", "C$3:D1", "C3:D1", "$C1:$D3")
        self.lost_range(0, 1, "C254:D256", "C$254:D256", "C256:D$254", "C256:D254", "$C254:$D256")

    def test_a_range_just_on_it_on_each_side(self):
        self.becomes(-1, 0, "SUM(B5:C6)", "SUM(A5:B6)")
        self.becomes(1, 0, "SUM(X5:Y6)", "SUM(Y5:Z6)")
        self.becomes(0, -1, "SUM(C2:D3)", "SUM(C1:D2)")
        self.becomes(0, 1, "SUM(C254:D255)", "SUM(C255:D256)")

    def test_a_range_whose_held_end_stays(self):
        self.becomes(-1, 0, "SUM($A5:C6)", "SUM($A5:B6)")
        self.becomes(1, 0, "SUM(X5:$Z6)", "SUM(Y5:$Z6)")
        self.becomes(0, -1, "SUM(C$1:D3)", "SUM(C$1:D2)")
        self.becomes(0, 1, "SUM(C254:D$256)", "SUM(C255:D$256)")
        self.stays(-30, -300, "SUM($A$1:$Z$256)")
        self.stays(30, 300, "SUM($A$1:$Z$256)")

    def test_the_column_off_at_one_end_and_the_row_at_the_other(self):
        self.lost_range(-1, -1, "A$5:$C1", "$A1:C$1", "A1:$B$2", "$A$1:B1")
        self.lost_range(1, 1, "Z$5:$C256", "$Z256:C$1", "$A$1:Z256")

    def test_only_what_comes_off_is_lost(self):
        self.becomes(-1, 0, "SUM(A1:B2,B1:C2,A1,B1,$A1:$A2,#REF)", "SUM(#REF,A1:B2,#REF,A1,$A1:$A2,#REF)")
        self.becomes(0, 1, "IF(A256=A255,A256,A$256)-A256", "IF(#REF=A256,#REF,A$256)-#REF")

    def test_what_is_lost_stays_lost(self):
        gone = copied(-1, 0, "SUM(A1:B2)+A1")
        self.assertEqual(gone, "SUM(#REF)+#REF")
        self.assertEqual(copied(1, 0, gone), gone)


class Ranges(CopyCase):
    def test_both_ends_move(self):
        self.becomes(2, 3, "SUM(A1:B2)", "SUM(C4:D5)")
        self.becomes(-2, -3, "SUM(D5:C4)", "SUM(A1:B2)")
        self.becomes(0, 8, "SUM(A1:A2)", "SUM(A9:A10)")
        self.becomes(0, 90, "SUM(A9:A10)", "SUM(A99:A100)")

    def test_each_column_and_row_moves_by_itself(self):
        for held in itertools.product(("", "$"), repeat=4):
            left, top, right, bottom = held
            text = f"MAX({left}C{top}10:{right}P{bottom}90)"
            form = f"MAX({left}{'C' if left else 'E'}{top}{10 if top else 13}:"
            form += f"{right}{'P' if right else 'R'}{bottom}{90 if bottom else 93})"
            self.becomes(2, 3, text, form)

    def test_columns_change_their_order(self):
        self.becomes(2, 0, "SUM(B1:$C2)", "SUM($C1:D2)")
        self.becomes(2, 0, "SUM($C1:B2)", "SUM($C1:D2)")
        self.becomes(-2, 0, "SUM($B1:C2)", "SUM(A1:$B2)")
        self.becomes(25, 0, "SUM(A1:$B2)", "SUM($B1:Z2)")
        self.becomes(-25, 0, "SUM($Y1:Z2)", "SUM(A1:$Y2)")

    def test_rows_change_their_order(self):
        self.becomes(0, 5, "SUM(A1:B$3)", "SUM(A$3:B6)")
        self.becomes(0, 5, "SUM(A$3:B1)", "SUM(A$3:B6)")
        self.becomes(0, -5, "SUM(A$8:B10)", "SUM(A5:B$8)")
        self.becomes(0, 255, "SUM(A1:B$2)", "SUM(A$2:B256)")
        self.becomes(0, -255, "SUM(A$255:B256)", "SUM(A1:B$255)")
        self.becomes(0, 1, "SUM(A9:A$9)", "SUM(A$9:A10)")

    def test_columns_change_and_rows_do_not(self):
        self.becomes(2, 1, "SUM(B1:$C5)", "SUM($C2:D6)")
        self.becomes(2, 0, "SUM(B$1:$C5)", "SUM($C$1:D5)")
        self.becomes(2, 0, "SUM(B1:$C$5)", "SUM($C1:D$5)")

    def test_rows_change_and_columns_do_not(self):
        self.becomes(1, 5, "SUM(A1:B$3)", "SUM(B$3:C6)")
        self.becomes(0, 5, "SUM($A1:B$3)", "SUM($A$3:B6)")
        self.becomes(0, 5, "SUM(A1:$B$3)", "SUM(A$3:$B6)")

    def test_both_change(self):
        self.becomes(2, 2, "SUM(A1:$B$2)", "SUM($B$2:C3)")
        self.becomes(2, -2, "SUM(A$4:$B5)", "SUM($B3:C$4)")
        self.becomes(-2, 2, "SUM($C1:D$2)", "SUM(B$2:$C3)")
        self.becomes(-2, -2, "SUM($C$3:D4)", "SUM(B2:$C$3)")

    def test_like_columns_of_which_one_is_held_part(self):
        for text in ("C1:$C2", "$C1:C2", "C2:$C1", "$C2:C1"):
            self.becomes(1, 0, "SUM(" + text + ")", "SUM($C1:D2)")
            self.becomes(-1, 0, "SUM(" + text + ")", "SUM(B1:$C2)")
            self.becomes(0, 1, "SUM(" + text + ")", "SUM(C2:$C3)")

    def test_like_rows_of_which_one_is_held_part(self):
        for text in ("A3:B$3", "A$3:B3", "B3:A$3", "B$3:A3"):
            self.becomes(0, 1, "SUM(" + text + ")", "SUM(A$3:B4)")
            self.becomes(0, -1, "SUM(" + text + ")", "SUM(A2:B$3)")
            self.becomes(1, 0, "SUM(" + text + ")", "SUM(B3:C$3)")

    def test_columns_become_like(self):
        self.becomes(1, 0, "SUM(B1:$C2)", "SUM(C1:$C2)")
        self.becomes(-1, 0, "SUM($B1:C2)", "SUM(B1:$B2)")
        self.becomes(-1, 0, "SUM($B2:C1)", "SUM(B1:$B2)")
        self.becomes(-1, 0, "SUM($B$1:C2)", "SUM(B$1:$B2)")

    def test_rows_become_like(self):
        self.becomes(0, 1, "SUM(A2:B$3)", "SUM(A3:B$3)")
        self.becomes(0, -1, "SUM(A$2:B3)", "SUM(A2:B$2)")
        self.becomes(0, -1, "SUM($A$2:B3)", "SUM($A2:B$2)")

    def test_like_ones_both_held_or_both_not(self):
        self.becomes(1, 0, "SUM(C1:C2)", "SUM(D1:D2)")
        self.stays(1, 0, "SUM($C1:$C2)")
        self.becomes(0, 1, "SUM(A3:B3)", "SUM(A4:B4)")
        self.stays(0, 1, "SUM(A$3:B$3)")

    def test_like_places(self):
        self.becomes(1, 1, "SUM(A1:A1)", "SUM(B2:B2)")
        self.becomes(1, 1, "SUM(A1:$A$1)", "SUM($A$1:B2)")
        self.becomes(1, 1, "SUM($A1:A$1)", "SUM($A$1:B2)")
        self.becomes(1, 1, "SUM($A1:$A1)", "SUM($A2:$A2)")
        self.becomes(-1, -1, "SUM(B2:$A$1)", "SUM(A1:$A$1)")
        self.becomes(-1, -1, "SUM(B2:$B$2)", "SUM(A1:$B$2)")


class FarAway(CopyCase):
    FARS = (LEAST, LEAST + 1, -65536, -257, 257, 65536, 4 * 256, 26 * 256, MOST - 1, MOST)

    def test_what_is_not_held_is_lost(self):
        for far in self.FARS:
            self.lost(far, 0, "A1", "Z256", "M$128", "A$1", "Z$256")
            self.lost(0, far, "A1", "Z256", "$M128", "$A1", "$Z256")
            self.lost_range(far, 0, "A1:Z256", "$A1:Z256", "A1:$Z256", "A$1:Z$256")
            self.lost_range(0, far, "A1:Z256", "A$1:Z256", "A1:Z$256", "$A1:$Z256")
            for other in self.FARS:
                self.lost(far, other, "A1", "$A1", "A$1", "Z256", "$Z256", "Z$256")
                self.lost_range(far, other, "A1:Z256", "$A$1:Z$256", "$A$1:$Z256", "$A1:$Z$256", "A$1:$Z$256")

    def test_what_is_held_stays(self):
        for far in self.FARS:
            self.stays(far, 0, "$A1", "$Z256", "SUM($A1:$Z256)")
            self.stays(0, far, "A$1", "Z$256", "SUM(A$1:Z$256)")
            self.becomes(far, 1, "$A1", "$A2")
            self.becomes(1, far, "A$1", "B$1")
            for other in self.FARS:
                self.stays(far, other, "$A$1", "$Z$256", "SUM($A$1:$Z$256)", "1", "#REF")

    def test_refusals(self):
        for columns, rows in itertools.product((LEAST, MOST), repeat=2):
            self.refused(columns, rows, "", "A", "A257", "A1:B2", "#ref", "A1" + " " * 63)


class Refusals(CopyCase):
    def test_a_refusal_is_its_number_alone(self):
        self.assertEqual(copy(1, 1, [43]), [-71])
        self.assertEqual(copy(-1, 0, as_bytes("+".join(["A1"] * 21))), [-28])

    def test_what_is_no_formula(self):
        for columns, rows in MOVES:
            self.refused(columns, rows, "", " ", "+", "1+", "(A1", "A1)", "A1 B1", "A0", "A257", "A01", "AA1", "$", "a")
            self.refused(columns, rows, "A1:B2", "SUM(A1:)", "SUM()", "IF(A1,B1,C1)", "#ref", '"a', "SUM(A1:#REF)")
            self.refused(columns, rows, "-" * 17 + "A1", "(" * 17 + "A1" + ")" * 17, "SUM(1,2,3,4,5,6,7,8,9)")

    def test_a_place_off_the_sheet_is_not_brought_onto_it(self):
        self.refused(0, -1, "A257", "SUM(A1:A257)")
        self.refused(0, 1, "A0", "SUM(A0:A1)")

    def test_more_than_64_bytes_ahead_of_all_else(self):
        for columns, rows in MOVES:
            self.refused(columns, rows, "A1" + " " * 63, " " * 65, "1" * 65, "+" * 80, "A1" + "+A1" * 21)
            self.refused(columns, rows, "A10+" * 16 + "1")
            self.assertEqual(copy(columns, rows, [255] * 65), [-71])
            self.assertEqual(copy(columns, rows, [None] * 65), [-71])

    def test_64_bytes_are_looked_at(self):
        self.becomes(1, 1, "A1" + " " * 62, "B2")
        self.becomes(-1, 0, " " * 62 + "A1", "#REF")

    def test_too_long_comes_behind_what_is_no_formula(self):
        self.becomes(-1, 0, "A1" + "+A1" * 20, TOO_LONG)
        self.refused(-1, 0, "A1" + "+A1" * 20 + "+", "A1" + "+A1" * 20 + "(")


class TooLong(CopyCase):
    def test_64_and_65_bytes_with_a_place_whose_row_is_longer(self):
        filled = "+1" * 29
        self.assertEqual(len("A100+A1" + filled), 65)
        self.becomes(0, 1, "A99+A1" + filled, TOO_LONG)
        self.becomes(1, 0, "A99+A1" + filled, "B99+B1" + filled)
        self.becomes(0, 1, "A9+A1" + filled, "A10+A2" + filled)
        self.becomes(0, 1, "A9+A9" + filled, TOO_LONG)
        self.becomes(0, 1, "A9+A$9" + filled, TOO_LONG)
        self.becomes(0, 1, "A1+A$9" + filled, "A2+A$9" + filled)

    def test_64_and_65_bytes_with_a_place_that_is_lost(self):
        filled = "1" + "+1" * 29
        self.assertEqual(len(filled + "-#REF"), 64)
        self.becomes(-1, 0, filled + "-A1", filled + "-#REF")
        self.becomes(-1, 0, filled + "1-A1", TOO_LONG)
        self.becomes(1, 0, filled + "1-A1", filled + "1-B1")

    def test_64_and_65_bytes_with_a_range_whose_rows_are_longer(self):
        filled = "+1" * 25
        text = "SUM(A9:A99)" + filled
        self.assertEqual(len(text), 61)
        self.becomes(0, 1, text + "1", "SUM(A10:A100)" + filled + "1")
        self.assertEqual(len(copied(0, 1, text + "1")), 64)
        self.becomes(0, 1, text + "11", TOO_LONG)
        self.becomes(1, 0, text + "11", "SUM(B9:B99)" + filled + "11")
        self.becomes(1, 0, text + "111", "SUM(B9:B99)" + filled + "111")

    def test_64_bytes_that_stay_64(self):
        text = "A1+" * 20 + "A100"
        self.assertEqual(len(text), 64)
        self.becomes(1, 1, text, "B2+" * 20 + "B101")

    def test_what_is_lost_may_be_shorter(self):
        text = "SUM($A$100:B$200)" + "+1" * 23 + "1"
        self.assertEqual(len(text), 64)
        self.becomes(25, 0, text, "SUM(#REF)" + "+1" * 23 + "1")

    def test_rows_may_be_shorter(self):
        self.becomes(0, -1, "A10+" * 15 + "A100", "A9+" * 15 + "A99")

    def test_only_what_is_written_is_measured(self):
        self.becomes(-1, 0, " " * 40 + "((A1+A1))*0001.50     ", "(#REF+#REF)*1.5")
        self.becomes(-1, 0, "(A1)+" * 12 + "(A1)", "#REF+" * 12 + "#REF")
        self.becomes(-1, 0, "A1+" * 12 + "A1", "#REF+" * 12 + "#REF")
        self.assertEqual(len("#REF+" * 12 + "#REF"), 64)
        self.becomes(-1, 0, "A1+" * 12 + "-A1", TOO_LONG)

    def test_the_longest_of_all(self):
        self.becomes(-1, 0, "A1+" * 20 + "A1", TOO_LONG)
        self.becomes(1, 0, "A1+" * 20 + "A1", "B1+" * 20 + "B1")


class Made(unittest.TestCase):
    def moves(self, seed):
        chance = random.Random(seed)
        for columns, rows in MOVES:
            yield columns, rows
        for _ in range(60):
            yield chance.randint(-27, 27), chance.randint(-258, 258)
        for _ in range(60):
            yield chance.randint(-3, 3), chance.randint(-3, 3)

    def test_made_formulas(self):
        for seed, (columns, rows) in enumerate(self.moves(21)):
            for messy, form in Maker(seed, columns, rows).formulas(60):
                expected = form if len(form) <= 64 else TOO_LONG
                self.assertEqual(copied(columns, rows, messy), expected, (columns, rows, messy))

    def test_made_formulas_that_come_to_64_bytes_and_above(self):
        lengths = {}
        for seed, (columns, rows) in enumerate(self.moves(25)):
            for messy, form in Maker(seed, columns, rows).long_formulas(60):
                lengths[len(form)] = True
                expected = form if len(form) <= 64 else TOO_LONG
                self.assertEqual(copied(columns, rows, messy), expected, (columns, rows, messy))
        self.assertLess({60, 61, 62, 63, 64, 65, 66, 67, 68}, set(lengths))

    def test_read_again_it_is_the_same_formula_and_written_the_same(self):
        for seed, (columns, rows) in enumerate(self.moves(22)):
            for messy, _ in Maker(seed + 1000, columns, rows).formulas(30):
                answer = copy(columns, rows, as_bytes(messy))
                if answer != [TOO_LONG]:
                    moved = copied_pieces(read_formula(as_bytes(messy)), columns, rows)
                    self.assertEqual(read_formula(answer[1:]), moved, messy)
                    self.assertEqual(tidy(answer[1:]), answer, messy)
                    self.assertEqual(copy(0, 0, answer[1:]), answer, messy)

    def test_what_is_tidied_first_is_copied_the_same(self):
        for seed, (columns, rows) in enumerate(self.moves(26)):
            for messy, _ in Maker(seed + 4000).formulas(30):
                self.assertEqual(copied(columns, rows, tidied(messy)), copied(columns, rows, messy), messy)

    def test_there_and_back(self):
        for seed, (columns, rows) in enumerate(self.moves(23)):
            for messy, _ in Maker(seed + 2000).formulas(30):
                there = copied(columns, rows, messy)
                if there != TOO_LONG and there.count("#REF") == messy.count("#REF"):
                    self.assertEqual(copied(-columns, -rows, there), tidied(messy), (columns, rows, messy))

    def test_nothing_but_places_and_ranges_changes(self):
        for seed, (columns, rows) in enumerate(self.moves(24)):
            for messy, _ in Maker(seed + 3000).formulas(20):
                answer = copy(columns, rows, as_bytes(messy))
                if answer != [TOO_LONG]:
                    self.assertEqual(skeleton(answer[1:]), skeleton(as_bytes(messy)), messy)


class Handing(unittest.TestCase):
    TEXTS = ("", "sum( b2:a1 , 007.50 )", "(a1)", '"a1"', "a1+", "-(a1+$b2)", " " * 65, "(" * 17, "IF(A1<2,$C$3,d4)",
             "A1" + "+A1" * 20)

    def test_the_list_stays_as_it_was(self):
        for text in self.TEXTS:
            for columns, rows in MOVES:
                p = as_bytes(text)
                copy(columns, rows, p)
                self.assertEqual(p, as_bytes(text))

    def test_the_list_is_not_changed_for_a_while_either(self):
        for text in self.TEXTS:
            for columns, rows in MOVES:
                answer = copy(columns, rows, as_bytes(text))
                self.assertEqual(copy(columns, rows, Unchanged(as_bytes(text))), answer)

    def test_what_is_given_back_is_a_list_of_its_own(self):
        for text in self.TEXTS:
            for columns, rows in MOVES:
                p = as_bytes(text)
                first = copy(columns, rows, p)
                kept = list(first)
                first.append(1)
                first[0] = 5
                self.assertEqual(p, as_bytes(text))
                self.assertEqual(copy(columns, rows, p), kept)

    def test_it_holds_whole_numbers_alone(self):
        for text in self.TEXTS:
            for columns, rows in MOVES:
                answer = copy(columns, rows, as_bytes(text))
                self.assertIs(type(answer), list)
                self.assertEqual({type(number) for number in answer}, {int})

    def test_nothing_is_kept_between_calls(self):
        asked = list(itertools.product(MOVES, self.TEXTS))
        alone = [copy(columns, rows, as_bytes(text)) for (columns, rows), text in asked]
        turned = [copy(columns, rows, as_bytes(text)) for (columns, rows), text in reversed(asked)]
        self.assertEqual(alone, list(reversed(turned)))


if __name__ == "__main__":
    unittest.main()
