"""Point 1: tidy writes a formula in its form, and refuses what isn't one."""

import unittest

from cellforms.formulas import tidy
from tests.asking import NOT_A_FORMULA, as_bytes, tidied

NAMES = ("SUM", "COUNT", "MIN", "MAX")
COMPARED = ("=", "<>", "<=", "<", ">=", ">")


class TidyCase(unittest.TestCase):
    def becomes(self, text, form):
        with self.subTest(text=text):
            self.assertEqual(tidied(text), form)

    def stays(self, *texts):
        for text in texts:
            self.becomes(text, text)

    def refused(self, *texts):
        for text in texts:
            self.becomes(text, NOT_A_FORMULA)


class Ordinary(TidyCase):
    def test_the_answer_is_0_and_the_bytes(self):
        self.assertEqual(tidy([97, 49, 32, 43, 32, 48, 50]), [0, 65, 49, 43, 50])

    def test_a_refusal_is_its_number_alone(self):
        self.assertEqual(tidy([43]), [-71])

    def test_ordinary_formulas(self):
        self.stays("1", "A1", '"x"', "#REF", "1+2*3-4/5", "-A1", "SUM(A1:B2)", "IF(A1<B1,1,2)*2")
        self.becomes("sum(a1:b3, 2.50) * (c4 - 1)", "SUM(A1:B3,2.5)*(C4-1)")
        self.becomes('if( a1 >= 010 , "big one" , -( b2 ) )', 'IF(A1>=10,"big one",-B2)')
        self.becomes("max((1+2),#REF)/min($z$256:a1)", "MAX(1+2,#REF)/MIN(A1:$Z$256)")

    def test_what_is_no_formula(self):
        self.refused("+", "-", "*", "/", "(", ")", ",", ":", "=", ".", "$", "#", '"', "A", "SUM", "IF", "()")
        self.refused("+1", "1+", "1-", "1*", "*1", "1/", "1+*2", "1**2", "1//2", "1++2", "1+/2", "-*1", "-+1")
        self.refused("(1", "1)", "(1))", "((1)", ")1(", "1(2)", "(1)(2)", "(1)2", "2(1)", "1,2", "(1,2)")
        self.refused("1 2", "A1 B1", "A1B1", "1A1", "A1 1", '"a""b"', '"a" "b"', "#REF#REF", "A1#REF", "#REF1")
        self.refused("1=2", "1<2", "(1=2)", "A1:B2", "(A1:B2)", "1&2", "1^2", "1%", "{1}", "[1]", "1;2", "=1", "_")

    def test_bytes_that_stand_in_no_formula(self):
        for byte in list(range(32)) + list(range(127, 256)):
            with self.subTest(byte=byte):
                self.assertEqual(tidy([byte]), [-71])
                self.assertEqual(tidy([49, byte]), [-71])
                self.assertEqual(tidy([byte, 49]), [-71])
                self.assertEqual(tidy([49, byte, 43, 49]), [-71])


class Lengths(TidyCase):
    def test_no_bytes(self):
        self.refused("", " ", " " * 64)

    def test_64_and_65_bytes(self):
        self.becomes(" " * 63 + "1", "1")
        self.becomes("1" + " " * 63, "1")
        self.refused(" " * 64 + "1", "1" + " " * 64)
        self.stays("1" * 4 + "+1" * 30)
        self.refused("1" * 5 + "+1" * 30)

    def test_80_bytes(self):
        self.refused("1" + " " * 79, "1+" * 39 + "11")


class Numbers(TidyCase):
    def test_12_and_13_digits(self):
        self.stays("1", "12", "123456789012", "999999999999")
        self.refused("1234567890123", "0000000000001", "0000000000000.5")
        self.becomes("000000000001", "1")

    def test_4_and_5_digits_behind_the_point(self):
        self.stays("1.2", "1.23", "1.234", "1.2345", "123456789012.3456")
        self.refused("1.23456", "1.20000", "1.00000", "123456789012.34567", "1234567890123.4")

    def test_the_point_stands_between_digits(self):
        self.refused(".", ".5", "5.", "1..2", "1.2.3", "1.A1", "1,5", "-.5", "5.+1")

    def test_zeros_in_front(self):
        self.becomes("007", "7")
        self.becomes("000000000000", "0")
        self.becomes("00", "0")
        self.becomes("00.5", "0.5")
        self.becomes("010.5", "10.5")
        self.stays("0", "10", "100", "1000000", "0.5", "10.01")

    def test_zeros_behind_the_point_and_the_point(self):
        self.becomes("1.50", "1.5")
        self.becomes("1.5000", "1.5")
        self.becomes("1.0", "1")
        self.becomes("10.0000", "10")
        self.becomes("0.0", "0")
        self.becomes("00.00", "0")
        self.becomes("100.0100", "100.01")
        self.stays("1.0001", "0.0001", "1.05")

    def test_no_sign_of_power_and_no_letters(self):
        self.refused("1e5", "1E5", "0x1", "1_0")


class Texts(TidyCase):
    def test_0_32_and_33_bytes(self):
        self.stays('""', '"' + "a" * 32 + '"')
        self.refused('"' + "a" * 33 + '"')

    def test_bytes_from_32_to_126(self):
        for byte in range(256):
            with self.subTest(byte=byte):
                p = [34, byte, 34]
                good = 32 <= byte <= 126 and byte != 34
                self.assertEqual(tidy(p), [0] + p if good else [-71])

    def test_bytes_at_the_edges_among_others(self):
        self.stays('"a b"', '"a~b"', '"~"', '" "')
        self.refused('"a\x1fb"', '"a\x7fb"', '"a\x00b"', '"a\xffb"', '"a\nb"', '"a\tb"')

    def test_a_text_is_as_it_was(self):
        self.stays('"abc ABC"', '"sum( a1 )"', '"007.50"', '"#ref"', '"(1)"', '"  "', '"a:b,c"', "\"it's\"", '"%\\"')

    def test_two_quotes(self):
        self.refused('"', '"a', 'a"', '"""', '"a"b"', '"a""', "'a'")
        self.stays('"a"+"b"', '""+""', '""+"(1)"')

    def test_a_text_may_stand_wherever_a_primary_may(self):
        self.stays('-"a"*"b"/2', 'SUM("a",A1)', 'IF("a"="b","c","d")')
        self.becomes('("a")', '"a"')


class Places(TidyCase):
    def test_every_column_and_row(self):
        for letter in "ABCDEFGHIJKLMNOPQRSTUVWXYZ":
            self.stays(letter + "1")
            self.becomes(letter.lower() + "256", letter + "256")
        for row in range(1, 257):
            self.stays("C" + str(row))

    def test_rows_1_256_257(self):
        self.stays("A1", "Z1", "A256", "Z256", "A99", "A100", "A255")
        self.refused("A257", "A0", "A258", "A260", "A300", "A999", "A1000", "A2560", "A" + "1" * 60)

    def test_a_row_with_0_in_front(self):
        self.refused("A01", "A001", "A0256", "A$01", "A00", "$A$0")

    def test_held(self):
        self.stays("$A1", "A$1", "$A$1", "$Z$256")
        self.becomes("$a$1", "$A$1")
        self.becomes("a$20+$b3", "A$20+$B3")

    def test_the_sign_before_either_alone(self):
        self.refused("$", "$$A1", "A$$1", "A1$", "$A", "$1", "A$", "$A$", "$1A", "$#REF", "$SUM(1)", '$"a"', "$(1)")

    def test_neighbours_of_the_letters(self):
        self.refused("@1", "[1", "`1", "{1", "AA1", "AB12", "aA1", "1A", "A-")

    def test_a_number_behind_a_point_is_no_row(self):
        self.refused("A1.5", "A1.0", "A.1")


class Letters(TidyCase):
    def test_small_and_great(self):
        for name in NAMES:
            self.stays(name + "(A1)")
            self.becomes(name.lower() + "(a1)", name + "(A1)")
            self.becomes(name.capitalize() + "(A1)", name + "(A1)")
        for name in ("IF", "if", "If", "iF"):
            self.becomes(name + "(a1=B1,c1,D1)", "IF(A1=B1,C1,D1)")

    def test_lost_in_great_letters_only(self):
        self.stays("#REF", "-#REF", "#REF+#REF", "SUM(#REF)", "SUM(#REF,#REF)", "IF(#REF=1,#REF,#REF)")
        self.refused("#ref", "#Ref", "#REf", "#rEF", "#ReF", "#RE", "REF", "#", "##REF", "#REFS", "#REF!")

    def test_lost_is_no_end_of_a_range(self):
        self.refused("SUM(#REF:A1)", "SUM(A1:#REF)", "SUM(#REF:#REF)")

    def test_other_names(self):
        self.refused("AVG(1)", "SUMS(1)", "SU(1)", "ASUM(1)", "COUNTA(1)", "MI(1)", "MAXX(1)", "IFF(1=1,1,1)", "A(1)")
        self.refused("SUM1", "SUM+1", "IF", "IF+1", "MAX", "A1(1)", "SUM SUM(1)", "I(1=1,1,1)")


class Blanks(TidyCase):
    def test_ahead_and_behind(self):
        self.becomes("  A1", "A1")
        self.becomes("A1   ", "A1")
        self.becomes(" #REF ", "#REF")

    def test_between(self):
        self.becomes(" - 1 + 2 * ( 3 - 4 ) / A1 ", "-1+2*(3-4)/A1")
        self.becomes(" SUM ( $A$1 : B2 , 3 ) ", "SUM($A$1:B2,3)")
        self.becomes("IF ( 1 <> 2 , \"a\" , #REF )", 'IF(1<>2,"a",#REF)')
        self.becomes("- - 1", "--1")
        self.becomes("1 - - 1", "1--1")
        self.becomes("1   +   1", "1+1")

    def test_within(self):
        self.refused("1 2", "1 .5", "1. 5", "1.5 0", "A 1", "$ A1", "$A $1", "A$ 1", "A1 0")
        self.refused("S UM(1)", "SU M(1)", "COUN T(1)", "I F(1=1,1,1)", "# REF", "#RE F", "#R EF")
        self.refused("IF(1< =2,3,4)", "IF(1> =2,3,4)", "IF(1< >2,3,4)")

    def test_blanks_of_another_sort(self):
        self.refused("1\t+1", "1\n", "\r1", "1\xa0+1", "\x0b1", "1\x0c", "\x001")


class Calls(TidyCase):
    def test_1_8_and_9_arguments(self):
        for name in NAMES:
            for many in range(1, 9):
                self.stays(name + "(" + ",".join(["1"] * many) + ")")
                self.stays(name + "(" + ",".join(["A1:B2"] * many) + ")")
            self.refused(name + "(" + ",".join(["1"] * 9) + ")", name + "(" + ",".join(["1"] * 10) + ")")
            self.refused(name + "(" + ",".join(["A1:B2"] * 9) + ")")
            self.refused(name + "()", name + "( )")

    def test_arguments_of_each_call_are_counted_by_themselves(self):
        self.stays("SUM(1,2,3,4,5,6,7,SUM(1,2,3,4,5,6,7,8))", "SUM(SUM(1,2,3,4),5,6,7,8,9,1,2)")
        self.refused("SUM(1,2,SUM(1,2,3,4,5,6,7,8,9))", "SUM(SUM(1),2,3,4,5,6,7,8,9)")

    def test_empty_arguments_and_wrong_ends(self):
        self.refused("SUM(,)", "SUM(1,)", "SUM(,1)", "SUM(1,,2)", "SUM(1", "SUM 1", "SUM 1)", "SUM(1;2)", "SUM(1=2)")
        self.refused("SUM(1)(2)", "SUM((1,2))", "SUM(1))", "SUM[1]", "(SUM)(1)")

    def test_a_call_is_a_primary(self):
        self.stays("-SUM(1)*MAX(2)/COUNT(A1)-MIN(3)")
        self.becomes("(SUM(1))*(MAX((2)))", "SUM(1)*MAX(2)")

    def test_an_argument_may_be_a_sum(self):
        self.stays("SUM(1+2*3,-A1)")
        self.becomes("SUM((1+2),(A1),(-(3)))", "SUM(1+2,A1,-3)")


class Choices(TidyCase):
    def test_each_sign_of_comparison(self):
        for sign in COMPARED:
            self.stays("IF(A1" + sign + "2,3,4)")
            self.becomes("if( a1 " + sign + " 2 , 3 , 4 )", "IF(A1" + sign + "2,3,4)")
            self.stays("IF(-1" + sign + "-2,-3,-4)")

    def test_other_signs(self):
        for sign in ("==", "=<", "=>", "><", "<<", ">>", "<=>", "!=", "!", "", "<==", "=="):
            self.refused("IF(1" + sign + "2,3,4)")

    def test_one_comparison_and_three_sums(self):
        self.refused("IF(1,2,3)", "IF(1=2)", "IF(1=2,3)", "IF(1=2,3,4,5)", "IF(1=2=3,4,5)", "IF(1=2,3=3,4)")
        self.refused("IF()", "IF(=2,3,4)", "IF(1=,3,4)", "IF(1=2,,4)", "IF(1=2,3,)", "IF(1=2,3,4", "IF 1=2,3,4")
        self.refused("IF((1=2),3,4)", "IF(1=2),3,4", "IF(,1=2,3,4)")

    def test_a_range_is_no_argument_of_it(self):
        self.refused("IF(A1:B2=1,2,3)", "IF(1=A1:B2,2,3)", "IF(1=1,A1:B2,3)", "IF(1=1,2,A1:B2)")

    def test_it_is_a_primary(self):
        self.stays("-IF(1=1,2,3)*IF(1=2,3,4)", "SUM(IF(1=1,2,3),A1:B2)", "IF(IF(1=1,2,3)=2,IF(1<2,3,4),5)")
        self.becomes("(IF((1+2)=(3),(4-5),((6))))/2", "IF(1+2=3,4-5,6)/2")


class Ranges(TidyCase):
    def test_each_order(self):
        for text in ("A1:B2", "B2:A1", "A2:B1", "B1:A2"):
            self.becomes("SUM(" + text + ")", "SUM(A1:B2)")
        for text in ("A9:Z10", "Z10:A9", "A10:Z9", "Z9:A10"):
            self.becomes("SUM(" + text + ")", "SUM(A9:Z10)")

    def test_each_keeps_its_sign(self):
        self.becomes("SUM($B2:A1)", "SUM(A1:$B2)")
        self.becomes("SUM(B$2:A1)", "SUM(A1:B$2)")
        self.becomes("SUM(B2:$A1)", "SUM($A1:B2)")
        self.becomes("SUM(B2:A$1)", "SUM(A$1:B2)")
        self.becomes("SUM($B1:A$2)", "SUM(A1:$B$2)")
        self.becomes("SUM(B$1:$A2)", "SUM($A$1:B2)")
        self.becomes("SUM($B$1:A2)", "SUM(A$1:$B2)")
        self.becomes("SUM(A$2:$B1)", "SUM(A1:$B$2)")
        self.stays("SUM($A$1:$B$2)", "SUM($A1:B$2)", "SUM(A$1:$B2)")

    def test_like_columns(self):
        self.becomes("SUM($A1:A2)", "SUM(A1:$A2)")
        self.becomes("SUM($A2:A1)", "SUM(A1:$A2)")
        self.becomes("SUM(A2:$A1)", "SUM(A1:$A2)")
        self.stays("SUM(A1:$A2)", "SUM(A1:A2)", "SUM($A1:$A2)")

    def test_like_rows(self):
        self.becomes("SUM(A$1:B1)", "SUM(A1:B$1)")
        self.becomes("SUM(B$1:A1)", "SUM(A1:B$1)")
        self.becomes("SUM(B1:A$1)", "SUM(A1:B$1)")
        self.stays("SUM(A1:B$1)", "SUM(A1:B1)", "SUM(A$1:B$1)")

    def test_like_places(self):
        self.stays("SUM(A1:A1)", "SUM($A$1:$A$1)", "SUM(A1:$A$1)")
        self.becomes("SUM($A$1:A1)", "SUM(A1:$A$1)")
        self.becomes("SUM($A1:A$1)", "SUM(A1:$A$1)")
        self.becomes("SUM(A$1:$A1)", "SUM(A1:$A$1)")

    def test_letters_and_blanks(self):
        self.becomes("sum( $b2 : a$1 )", "SUM(A$1:$B2)")

    def test_only_between_two_places_in_a_call(self):
        self.refused("A1:B2", "SUM(A1:)", "SUM(:A1)", "SUM(:)", "SUM(A1::B2)", "SUM(A1:B2:C3)", "SUM(1:2)", "SUM(A:B)")
        self.refused("SUM((A1):B2)", "SUM(A1:(B2))", "SUM((A1:B2))", "SUM(-A1:B2)", "SUM(A1:-B2)", "SUM(A1:B2+1)")
        self.refused("SUM(1+A1:B2)", "SUM(A1:SUM(1))", "SUM(A1:B257)", "SUM(A0:B2)", "SUM(A1:2)", 'SUM(A1:"a")')

    def test_a_place_alone_stays_a_place(self):
        self.stays("SUM(A1)", "SUM(A1,B1:B2,C1)")


class Nesting(TidyCase):
    def test_16_and_17_brackets(self):
        self.becomes("(" * 16 + "1" + ")" * 16, "1")
        self.refused("(" * 17 + "1" + ")" * 17)
        self.refused("(" * 31 + "1" + ")" * 31, "(" * 64, "(" * 63 + "1")

    def test_16_and_17_signs(self):
        self.stays("-" * 16 + "1")
        self.refused("-" * 17 + "1", "-" * 63 + "1", "-" * 64)
        self.stays("1" + "-" * 17 + "1")
        self.refused("1" + "-" * 18 + "1")

    def test_16_and_17_with_names(self):
        for name in ("SUM", "MIN", "MAX"):
            self.stays((name + "(") * 8 + "-" * 8 + "1" + ")" * 8)
            self.refused((name + "(") * 8 + "-" * 9 + "1" + ")" * 8)
            self.refused("-" * 9 + (name + "(") * 8 + "1" + ")" * 8)
            self.becomes("(" * 6 + (name + "(") * 10 + "1" + ")" * 16, (name + "(") * 10 + "1" + ")" * 10)
            self.refused("(" * 7 + (name + "(") * 9 + "-1" + ")" * 16)
        self.stays("COUNT(" * 6 + "-" * 10 + "1" + ")" * 6)
        self.refused("COUNT(" * 6 + "-" * 11 + "1" + ")" * 6)

    def test_16_and_17_with_choices(self):
        for ahead, behind in (("IF(", "=1,2,3)"), ("IF(1=", ",2,3)"), ("IF(1=1,", ",3)"), ("IF(1=1,2,", ")")):
            self.stays(ahead * 5 + "-" * 11 + "1" + behind * 5)
            self.refused(ahead * 5 + "-" * 12 + "1" + behind * 5)
            self.becomes(ahead + "(" * 15 + "1" + ")" * 15 + behind, ahead + "1" + behind)
            self.refused(ahead + "(" * 16 + "1" + ")" * 16 + behind)

    def test_16_and_17_mixed(self):
        self.becomes("-(" * 8 + "1" + ")" * 8, "-" * 8 + "1")
        self.refused("-(" * 8 + "-1" + ")" * 8, "-(" * 8 + "(1)" + ")" * 8, "(" + "-(" * 8 + "1" + ")" * 9)
        self.becomes("(-" * 8 + "1" + ")" * 8, "-" * 8 + "1")
        self.stays("-SUM(-IF(-MAX(--COUNT(-MIN(-1)))=1,2,3))")
        ahead = "IF(SUM((-(-MAX(((---"
        behind = "))))))=1,2,3)"
        self.becomes(ahead + "(" * 4 + "1" + ")" * 4 + behind, "IF(SUM(--MAX(---1))=1,2,3)")
        self.refused(ahead + "(" * 5 + "1" + ")" * 5 + behind)

    def test_side_by_side_is_not_within(self):
        self.stays("-1" + "*-1" * 20)
        self.stays("1" + "--1" * 21)
        self.becomes("(1)" + "+(1)" * 15, "1" + "+1" * 15)
        self.becomes("(1)" + "*(-1)" * 12, "1" + "*-1" * 12)
        self.stays("SUM(1)" + "+SUM(1)" * 8)
        self.stays("SUM(" + "-" * 15 + "1," + "-" * 15 + "1," + "-" * 15 + "1)")
        self.refused("SUM(" + "-" * 15 + "1," + "-" * 16 + "1)")


class Brackets(TidyCase):
    def test_around_all_and_around_one(self):
        for text in ("1", "A1", '"a"', "#REF", "SUM(A1:B2)", "IF(1=2,3,4)", "-1", "1+2", "1*2"):
            self.becomes("(" + text + ")", text)
            self.becomes("((" + text + "))", text)
            self.becomes("SUM((" + text + "))", "SUM(" + text + ")")
            self.becomes("IF((" + text + ")=(" + text + "),1,2)", "IF(" + text + "=" + text + ",1,2)")

    def test_one_alone_on_either_side(self):
        for sign in "+-*/":
            for text in ("1", "A1", '"a"', "#REF", "SUM(1)", "-1"):
                self.becomes("(" + text + ")" + sign + "2", text + sign + "2")
                self.becomes("2" + sign + "(" + text + ")", "2" + sign + text)
        self.becomes("-(1)", "-1")
        self.becomes("-(-1)", "--1")
        self.becomes("-(SUM(1))", "-SUM(1)")

    def test_on_the_left(self):
        for outer in "+-":
            for inner in "+-*/":
                self.becomes("(1" + inner + "2)" + outer + "3", "1" + inner + "2" + outer + "3")
        for outer in "*/":
            for inner in "*/":
                self.becomes("(1" + inner + "2)" + outer + "3", "1" + inner + "2" + outer + "3")
            for inner in "+-":
                self.stays("(1" + inner + "2)" + outer + "3")

    def test_on_the_right(self):
        for outer in "+-":
            for inner in "*/":
                self.becomes("1" + outer + "(2" + inner + "3)", "1" + outer + "2" + inner + "3")
            for inner in "+-":
                self.stays("1" + outer + "(2" + inner + "3)")
        for outer in "*/":
            for inner in "+-*/":
                self.stays("1" + outer + "(2" + inner + "3)")

    def test_in_the_middle(self):
        self.becomes("1+(2*3)+4", "1+2*3+4")
        self.stays("1+(2+3)+4", "1*(2*3)*4", "1*(2+3)*4", "1-(2-3)-4", "1/(2/3)/4")

    def test_behind_the_sign_of_a_factor(self):
        for inner in "+-*/":
            self.stays("-(1" + inner + "2)", "2*-(1" + inner + "2)", "2--(1" + inner + "2)")
            self.becomes("-((1)" + inner + "(2))", "-(1" + inner + "2)")

    def test_around_a_factor_with_a_sign(self):
        for sign in "+-*/":
            self.becomes("(-1)" + sign + "2", "-1" + sign + "2")
            self.becomes("2" + sign + "(-1)", "2" + sign + "-1")
            self.becomes("2" + sign + "(-(-1))", "2" + sign + "--1")
        for sign in "*/":
            self.stays("2" + sign + "(-1*2)", "2" + sign + "(-1+2)", "(-1+2)" + sign + "3")
            self.becomes("(-1*2)" + sign + "3", "-1*2" + sign + "3")

    def test_several_are_one(self):
        self.becomes("((1+2))*3", "(1+2)*3")
        self.becomes("3*(((1+2)))", "3*(1+2)")
        self.becomes("-((((1*2))))", "-(1*2)")
        self.becomes("1-(((2)-(3)))", "1-(2-3)")

    def test_longer_ones(self):
        self.becomes("((1+2)+3)+(4*(5))", "1+2+3+4*5")
        self.becomes("(((1*2))+(3/(4)))-((5)-6)", "1*2+3/4-(5-6)")
        self.becomes("((A1-B1)*(C1))/(D1*(E1+(F1)))", "(A1-B1)*C1/(D1*(E1+F1))")
        self.becomes("((1)+(2))*((3)*(4))", "(1+2)*(3*4)")


if __name__ == "__main__":
    unittest.main()
