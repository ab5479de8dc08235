"""Point 5: what is written is read as the same formula and written the same; and what holds of every formula."""

import ast
import itertools
import random
import unittest
import unittest.mock

from cellforms.formulas import copy, refs, shift, tidy
from cellforms.pieces import sign_piece
from cellforms.reading import read_formula
from cellforms.refusals import NotFormula, TooLong
from cellforms.writing import write_formula
from tests.asking import NOT_A_FORMULA, TOO_LONG, as_bytes, copied, shifted, tidied
from tests.making import Maker

PYTHONS = {ast.Add: "+", ast.Sub: "-", ast.Mult: "*", ast.Div: "/"}


def as_python(text):
    """The formula as Python reads it, or None; for numbers, the four signs, "-" and "(" the two agree."""
    try:
        read = ast.parse(text.strip(), mode="eval").body
    except SyntaxError:
        return None
    try:
        return as_tree(read)
    except (KeyError, TypeError):
        return None


def as_tree(node):
    if isinstance(node, ast.BinOp):
        return (PYTHONS[type(node.op)], as_tree(node.left), as_tree(node.right))
    if isinstance(node, ast.UnaryOp) and isinstance(node.op, ast.USub):
        return ("-", as_tree(node.operand))
    if isinstance(node, ast.Constant):
        return node.value
    raise TypeError


def without_a_pair(form):
    """The form once for each pair of brackets, without that pair."""
    fewer, ahead = [], []
    for at, sign in enumerate(form):
        if sign == "(":
            ahead.append(at)
        if sign == ")":
            start = ahead.pop()
            fewer.append(form[:start] + form[start + 1:at] + form[at + 1:])
    return fewer


class Again(unittest.TestCase):
    def test_made_formulas_are_written_in_their_form(self):
        for messy, form in Maker(1).formulas(3000):
            self.assertEqual(tidied(messy), form, messy)

    def test_read_again_it_is_the_same_formula_and_written_the_same(self):
        for messy, _ in Maker(2).formulas(3000):
            written = tidy(as_bytes(messy))[1:]
            self.assertEqual(read_formula(written), read_formula(as_bytes(messy)), messy)
            self.assertEqual(tidy(written), [0] + written, messy)

    def test_a_form_is_never_longer_than_what_was_read(self):
        for messy, _ in Maker(3).formulas(3000):
            answer = tidy(as_bytes(messy))
            self.assertEqual(answer[0], 0, messy)
            self.assertLessEqual(len(answer) - 1, len(messy), messy)

    def test_one_byte_changed(self):
        chance = random.Random(4)
        for messy, _ in Maker(4).formulas(1500):
            p = as_bytes(messy)
            p[chance.randrange(len(p))] = chance.choice(as_bytes('19.A$z+-*/(),:=<> "#') + [0, 31, 127, 255])
            answer = tidy(p)
            if answer != [NOT_A_FORMULA]:
                self.assertEqual(answer[0], 0, messy)
                self.assertEqual(tidy(answer[1:]), answer, messy)


class EachCall(unittest.TestCase):
    """What tidy, copy and shift have written is, handed to tidy, written the same."""

    EDGES = ("(" * 16 + "a1" + ")" * 16, "-" * 16 + "$a1", "-(" * 8 + "z256" + ")" * 8, "A1+" * 20 + "A100",
             "SUM(A$1:A2,$A1:B1,$Y1:Z2,A$255:A256)", "SUM($b$2:a1,b$1:$a2)-max(z1:$a256)", "1-(a1-(b2-(c3)))",
             "-(a1*2)/(b1*(c1/d1))", "if((a1)<>(-b2),(c3+d4),\"a \")*(e5+1)", "007.50*(a9+0.0)", "#REF-(#REF-a1)",
             "SUM((a1),a1:a1,(#REF),$a$1:a1)", "A9+" * 21 + "1", "1" + "-(1" * 15 + ")" * 15)

    def answers(self, p, chance):
        yield tidy(p)
        for columns, rows in ((0, 0), (1, 1), (-1, 0), (0, -1), (25, 0), (0, 255), (-2147483648, 2147483647)):
            yield copy(columns, rows, p)
        yield copy(chance.randint(-26, 26), chance.randint(-256, 256), p)
        for what, size in enumerate((256, 256, 26, 26)):
            for at, many in ((0, 1), (1, 1), (0, size), (1, size - 1), (size - 2, 1), (size - 1, 1)):
                yield shift(what, at, many, p)
            at = chance.randrange(size)
            yield shift(what, at, chance.randint(1, size - at), p)

    def written(self, p, chance):
        for answer in self.answers(p, chance):
            if answer != [TOO_LONG]:
                self.assertEqual(answer[0], 0, p)
                self.assertLessEqual(len(answer), 65, p)
                yield answer[1:]

    def test_it_is_written_the_same(self):
        chance = random.Random(6)
        texts = [messy for messy, _ in Maker(6).formulas(250) + Maker(7).long_formulas(40)]
        for text in self.EDGES + tuple(texts):
            for written in self.written(as_bytes(text), chance):
                self.assertEqual(tidy(written), [0] + written, text)
                self.assertEqual(copy(0, 0, written), [0] + written, text)

    def test_one_call_behind_another(self):
        chance = random.Random(8)
        for messy, _ in Maker(8).formulas(150):
            p = as_bytes(messy)
            for _ in range(8):
                p = chance.choice(list(self.written(p, chance)))
                self.assertEqual(tidy(p), [0] + p, messy)

    def test_each_call_takes_a_formula_as_its_form(self):
        for messy, form in Maker(9).formulas(600):
            self.assertEqual(copied(3, -4, form), copied(3, -4, messy))
            for what in range(4):
                self.assertEqual(shifted(what, 5, 6, form), shifted(what, 5, 6, messy))
            self.assertEqual(refs(as_bytes(form)), refs(as_bytes(messy)))


class BesidePython(unittest.TestCase):
    def check(self, text):
        tree = as_python(text)
        form = tidied(text)
        if tree is None:
            self.assertEqual(form, NOT_A_FORMULA, text)
            return
        self.assertNotEqual(form, NOT_A_FORMULA, text)
        self.assertEqual(as_python(form), tree, text)
        for fewer in without_a_pair(form):
            self.assertNotEqual(as_python(fewer), tree, text)

    def test_all_short_ones(self):
        for length in range(6):
            for signs in itertools.product("1+-*/() ", repeat=length):
                self.check("".join(signs))

    def test_all_of_one_digit_and_brackets(self):
        for signs in itertools.product("1-*()", repeat=7):
            self.check("".join(signs))

    def test_longer_ones(self):
        chance = random.Random(5)
        for _ in range(3000):
            text = "1"
            # Each step lies at most two deeper, so that seven stay within 16.
            for _ in range(chance.randrange(1, 8)):
                other = chance.choice(("2", "3", "(4+5)", "(6*7)"))
                pattern = chance.choice(("({0}){1}{2}", "{0}{1}{2}", "{2}{1}({0})", "{2}{1}{0}", "-{0}", "-({0})"))
                text = pattern.format(text, chance.choice("+-*/"), other)
            self.check(text)


class Handing(unittest.TestCase):
    TEXTS = ("", "sum( b2:a1 , 007.50 )", "(1)", '"a"', "1+", "-(1+2)", " " * 65, "(" * 17, "IF(1<2,3,4)")

    def test_the_list_stays_as_it_was(self):
        for text in self.TEXTS:
            p = as_bytes(text)
            tidy(p)
            self.assertEqual(p, as_bytes(text))

    def test_what_is_given_back_is_a_list_of_its_own(self):
        for text in self.TEXTS:
            p = as_bytes(text)
            first = tidy(p)
            kept = list(first)
            first.append(1)
            first[0] = 5
            self.assertEqual(p, as_bytes(text))
            self.assertEqual(tidy(p), kept)

    def test_it_holds_whole_numbers_alone(self):
        for text in self.TEXTS:
            answer = tidy(as_bytes(text))
            self.assertIs(type(answer), list)
            self.assertEqual({type(number) for number in answer}, {int})

    def test_nothing_is_kept_between_calls(self):
        alone = [tidy(as_bytes(text)) for text in self.TEXTS]
        turned = [tidy(as_bytes(text)) for text in reversed(self.TEXTS)]
        self.assertEqual(alone, list(reversed(turned)))


class Lengths(unittest.TestCase):
    """No formula of at most 64 bytes has a longer form, so the edge is tried on pieces."""

    def test_64_bytes_are_written_and_65_are_not(self):
        self.assertEqual(write_formula([sign_piece("-")] * 64), [45] * 64)
        with self.assertRaises(TooLong):
            write_formula([sign_piece("-")] * 65)

    def test_too_long_is_answered_by_its_number_alone(self):
        with unittest.mock.patch("cellforms.formulas.read_formula", lambda p: [sign_piece("-")] * 65):
            self.assertEqual(tidy([49]), [-28])
        with unittest.mock.patch("cellforms.formulas.read_formula", lambda p: [sign_piece("-")] * 64):
            self.assertEqual(tidy([49]), [0] + [45] * 64)

    def test_65_bytes_are_not_looked_at(self):
        with self.assertRaises(NotFormula):
            read_formula([None] * 65)


if __name__ == "__main__":
    unittest.main()
