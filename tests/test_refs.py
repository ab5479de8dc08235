"""Point 4: refs tells where a formula's places and ranges point."""

import itertools
import re
import unittest
import unittest.mock

from cellforms.formulas import copy, refs, shift, tidy
from cellforms.pieces import lost_piece, sign_piece
from tests.asking import LETTERS, NOT_A_FORMULA, TOO_LONG, Unchanged, as_bytes, copied, pointed, shifted, tidied
from tests.making import Maker

POINTING = re.compile(r'"[^"]*"|\$?([A-Z])\$?(\d+)(?: *: *\$?([A-Z])\$?(\d+))?', re.IGNORECASE)


def found(text):
    """Where the formula points, by its signs alone: what looks like a place outside a text is one."""
    told = []
    for column, row, other_column, other_row in POINTING.findall(text):
        if column:
            columns = sorted(LETTERS.index(letter.upper()) for letter in (column, other_column or column))
            rows = sorted(int(digits) - 1 for digits in (row, other_row or row))
            told.append((columns[0], rows[0], columns[1], rows[1]))
    return told


class RefsCase(unittest.TestCase):
    def tells(self, text, *expected):
        with self.subTest(text=text):
            self.assertEqual(pointed(text), list(expected))

    def refused(self, *texts):
        for text in texts:
            with self.subTest(text=text):
                self.assertEqual(pointed(text), NOT_A_FORMULA)


class Ordinary(RefsCase):
    def test_the_answer_is_0_and_four_numbers_for_each(self):
        self.assertEqual(refs(as_bytes("c5")), [0, 2, 4, 2, 4])
        self.assertEqual(refs(as_bytes("sum(b2:d9)-a1")), [0, 1, 1, 3, 8, 0, 0, 0, 0])
        self.assertEqual(refs(p=as_bytes("B1")), [0, 1, 0, 1, 0])

    def test_0_alone_where_there_is_none(self):
        for text in ("1", '"a"', '"A1"', '"SUM(A1:B2)"', "#REF", "SUM(#REF)", "-1*(2+3)", "IF(1<2,3,4)", " 1.50 ",
                     'IF("A1"="B2",#REF,-#REF)', "MAX(1,2,#REF)"):
            with self.subTest(text=text):
                self.assertEqual(refs(as_bytes(text)), [0])

    def test_column_ahead_of_row_and_both_from_0(self):
        self.tells("A1", (0, 0, 0, 0))
        self.tells("B1", (1, 0, 1, 0))
        self.tells("A2", (0, 1, 0, 1))
        self.tells("Z256", (25, 255, 25, 255))
        self.tells("SUM(A1:Z256)", (0, 0, 25, 255))

    def test_every_column_and_row(self):
        for column, letter in enumerate(LETTERS):
            self.tells(letter + "9", (column, 8, column, 8))
            self.tells(letter.lower() + "9", (column, 8, column, 8))
        for row in range(256):
            self.tells("C" + str(row + 1), (2, row, 2, row))

    def test_in_the_order_in_which_they_stand(self):
        self.tells("C3+A1+B2", (2, 2, 2, 2), (0, 0, 0, 0), (1, 1, 1, 1))
        self.tells("A1*B1-C1/D1", (0, 0, 0, 0), (1, 0, 1, 0), (2, 0, 2, 0), (3, 0, 3, 0))
        self.tells("C1-(B1-A1)", (2, 0, 2, 0), (1, 0, 1, 0), (0, 0, 0, 0))
        self.tells("SUM(D1,B1:C2,A1)", (3, 0, 3, 0), (1, 0, 2, 1), (0, 0, 0, 0))

    def test_each_as_often_as_it_stands(self):
        self.tells("A1+A1+A1", *[(0, 0, 0, 0)] * 3)
        self.tells("SUM(A1:B2,A1:B2,A1)", (0, 0, 1, 1), (0, 0, 1, 1), (0, 0, 0, 0))
        self.tells("A1" + "+A1" * 20, *[(0, 0, 0, 0)] * 21)

    def test_within_brackets(self):
        self.tells("(A1)", (0, 0, 0, 0))
        self.tells("-(A1+(B2))*(C3)", (0, 0, 0, 0), (1, 1, 1, 1), (2, 2, 2, 2))
        self.tells("(" * 16 + "A1" + ")" * 16, (0, 0, 0, 0))
        self.tells("-" * 16 + "A1", (0, 0, 0, 0))

    def test_within_calls(self):
        for name in ("SUM", "count", "Min", "MAX"):
            self.tells(name + "(A1,B2:C3,-D4*(E5))", (0, 0, 0, 0), (1, 1, 2, 2), (3, 3, 3, 3), (4, 4, 4, 4))
            self.tells(name + "(A1:B2,SUM(C3:D4),E5)", (0, 0, 1, 1), (2, 2, 3, 3), (4, 4, 4, 4))
        self.tells("SUM(A1,B1,C1,D1,E1,F1,G1,H1:H2)", *[(k, 0, k, 0) for k in range(7)], (7, 0, 7, 1))

    def test_within_choices(self):
        self.tells("IF(A1=B2,C3,D4)", *[(k, k, k, k) for k in range(4)])
        self.tells("IF(D4<=C3,B2,A1)", *[(k, k, k, k) for k in (3, 2, 1, 0)])
        self.tells("IF(SUM(A1:B2)>1,MAX(C3:D4),-E5)+F6", (0, 0, 1, 1), (2, 2, 3, 3), (4, 4, 4, 4), (5, 5, 5, 5))
        self.tells("IF(IF(A1<>1,B1,2)=3,C1,IF(4>D1,5,E1))", *[(k, 0, k, 0) for k in range(5)])

    def test_held_or_not_is_the_same(self):
        for column, row in itertools.product(("", "$"), repeat=2):
            self.tells(f"{column}C{row}7", (2, 6, 2, 6))
        for left, top, right, bottom in itertools.product(("", "$"), repeat=4):
            self.tells(f"SUM({left}C{top}7:{right}E{bottom}9)", (2, 6, 4, 8))
            self.tells(f"SUM({left}E{top}7:{right}C{bottom}9)", (2, 6, 4, 8))
            self.tells(f"SUM({left}C{top}7:{right}C{bottom}7)", (2, 6, 2, 6))

    def test_what_is_lost_is_not_told(self):
        self.tells("#REF+A1", (0, 0, 0, 0))
        self.tells("A1+#REF", (0, 0, 0, 0))
        self.tells("SUM(#REF,B1:C2,#REF,A1)-#REF", (1, 0, 2, 1), (0, 0, 0, 0))
        self.tells("IF(#REF=A1,#REF,B2)", (0, 0, 0, 0), (1, 1, 1, 1))

    def test_what_stands_in_texts_is_not_told(self):
        self.tells('"A1"+B2', (1, 1, 1, 1))
        self.tells('SUM("A1:B2",C3)', (2, 2, 2, 2))
        self.tells('"(A1"+B2+")C3"', (1, 1, 1, 1))


class Ranges(RefsCase):
    def test_from_any_corner(self):
        for text in ("B3:D5", "D5:B3", "B5:D3", "D3:B5"):
            self.tells(f"SUM({text})", (1, 2, 3, 4))
        for text in ("A1:Z256", "Z256:A1", "A256:Z1", "Z1:A256"):
            self.tells(f"SUM({text})", (0, 0, 25, 255))
        for text in ("A9:A10", "A10:A9"):
            self.tells(f"SUM({text})", (0, 8, 0, 9))
        for text in ("A9:B9", "B9:A9"):
            self.tells(f"SUM({text})", (0, 8, 1, 8))

    def test_of_one_place(self):
        self.tells("SUM(C3:C3)", (2, 2, 2, 2))
        self.tells("SUM($C$3:C3)", (2, 2, 2, 2))

    def test_small_letters_and_blanks(self):
        self.tells(" sum ( $d5 : b$3 , a1 ) ", (1, 2, 3, 4), (0, 0, 0, 0))


class Refusals(RefsCase):
    def test_a_refusal_is_its_number_alone(self):
        self.assertEqual(refs([43]), [-71])
        self.assertEqual(refs([]), [-71])
        self.assertEqual(refs(as_bytes("A1+")), [-71])

    def test_what_is_no_formula(self):
        self.refused("", " ", "+", "1+", "(A1", "A1)", "A1 B1", "A0", "A257", "A01", "AA1", "$", "a", "A1+B2+")
        self.refused("A1:B2", "SUM(A1:)", "SUM()", "IF(A1,B1,C1)", "#ref", '"a', "SUM(A1:#REF)", "SUM(A1:B257)", "=A1")
        self.refused("-" * 17 + "A1", "(" * 17 + "A1" + ")" * 17, "SUM(1,2,3,4,5,6,7,8,9)", "SUM(A1:B2:C3)")

    def test_more_than_64_bytes_ahead_of_all_else(self):
        self.tells("A1" + " " * 62, (0, 0, 0, 0))
        self.refused("A1" + " " * 63, " " * 65, "1" * 65, "+" * 80, "A1" + "+A1" * 21, " " * 78 + "A1")
        self.assertEqual(refs([255] * 65), [-71])
        self.assertEqual(refs([None] * 65), [-71])
        self.assertEqual(refs([None] * 80), [-71])

    def test_tidy_refuses_the_same(self):
        for messy, _ in Maker(50).formulas(300):
            for text in (messy, messy[1:], messy[:-1], messy + "1", messy + ")", messy.replace("(", "", 1)):
                self.assertEqual(pointed(text) == NOT_A_FORMULA, tidied(text) == NOT_A_FORMULA, text)


class Lengths(RefsCase):
    """Nothing is written here, so nothing is too long, however long the form is."""

    def test_64_bytes_that_are_their_own_form(self):
        text = "A1+" * 20 + "A100"
        self.assertEqual((len(text), tidied(text)), (64, text))
        self.tells(text, *[(0, 0, 0, 0)] * 20, (0, 99, 0, 99))

    def test_what_is_too_long_to_be_copied_or_shifted(self):
        text = "A1" + "+A1" * 20
        self.assertEqual((copied(-1, 0, text), shifted(1, 0, 1, text)), (TOO_LONG, TOO_LONG))
        self.tells(text, *[(0, 0, 0, 0)] * 21)

    def test_a_form_of_more_than_64_bytes(self):
        # No formula of at most 64 bytes has such a form, so it's tried on pieces.
        place = ("place", ((2, 1), (3, 1)))
        for many in (15, 16, 17, 100):
            pieces = [place, sign_piece("+"), lost_piece(), sign_piece("+")] * many + [place]
            with unittest.mock.patch("cellforms.formulas.read_formula", lambda p: pieces):
                self.assertEqual(tidy([49]), [TOO_LONG])
                self.assertEqual(refs([49]), [0] + [2, 3, 2, 3] * (many + 1))


class Made(unittest.TestCase):
    def test_made_formulas(self):
        for messy, form in Maker(51).formulas(3000) + Maker(52).long_formulas(500):
            self.assertEqual(pointed(messy), found(messy), messy)
            self.assertEqual(pointed(form), found(messy), messy)

    def test_what_is_written_points_to_the_same(self):
        for messy, _ in Maker(53).formulas(1000):
            p = as_bytes(messy)
            self.assertEqual(refs(tidy(p)[1:]), refs(p), messy)

    def test_what_is_copied_points_so_much_further(self):
        for messy, _ in Maker(54).formulas(1000):
            text = messy.replace("$", "")
            there = copied(1, 2, text)
            if there != TOO_LONG and there.count("#REF") == text.count("#REF"):
                further = [(a + 1, b + 2, c + 1, d + 2) for a, b, c, d in pointed(text)]
                self.assertEqual(pointed(there), further, text)

    def test_what_is_lost_is_told_no_more(self):
        for messy, _ in Maker(55).formulas(1000):
            for at in (0, 8, 99):
                answer = shift(1, at, 1, as_bytes(messy))
                if answer != [TOO_LONG]:
                    left = [told for told in pointed(messy) if not at == told[1] == told[3]]
                    self.assertEqual(len(refs(answer[1:])), 1 + 4 * len(left), (at, messy))
            answer = copy(1000, 1000, as_bytes(messy.replace("$", "")))
            if answer != [TOO_LONG]:
                self.assertEqual(refs(answer[1:]), [0], messy)


class Handing(unittest.TestCase):
    TEXTS = ("", "sum( b2:a1 , 007.50 )", "(a1)", '"a1"', "a1+", "-(a1+$b2)", " " * 65, "(" * 17, "IF(A1<2,$C$3,d4)",
             "A1" + "+A1" * 20, "1", "#REF")

    def test_the_list_stays_as_it_was(self):
        for text in self.TEXTS:
            p = as_bytes(text)
            refs(p)
            self.assertEqual(p, as_bytes(text))

    def test_the_list_is_not_changed_for_a_while_either(self):
        for text in self.TEXTS:
            self.assertEqual(refs(Unchanged(as_bytes(text))), refs(as_bytes(text)))

    def test_what_is_given_back_is_a_list_of_its_own(self):
        for text in self.TEXTS:
            p = as_bytes(text)
            first = refs(p)
            kept = list(first)
            first.append(1)
            first[0] = 5
            self.assertEqual(p, as_bytes(text))
            self.assertEqual(refs(p), kept)

    def test_it_holds_whole_numbers_alone(self):
        for text in self.TEXTS:
            answer = refs(as_bytes(text))
            self.assertIs(type(answer), list)
            self.assertEqual({type(number) for number in answer}, {int})

    def test_nothing_is_kept_between_calls(self):
        alone = [refs(as_bytes(text)) for text in self.TEXTS]
        turned = [refs(as_bytes(text)) for text in reversed(self.TEXTS)]
        self.assertEqual(alone, list(reversed(turned)))


if __name__ == "__main__":
    unittest.main()
