"""Formulas made for the tests, each with what is to be written of it."""

import random

SUM, TERM, FACTOR = 0, 1, 2


class Maker:
    """Makes formulas at random, but the same each time.

    Each comes with its blanks and brackets, and in its form as it's copied so many columns and rows further.
    """

    def __init__(self, seed, columns=0, rows=0):
        self.random = random.Random(seed)
        self.columns = columns
        self.rows = rows

    def blanks(self):
        return " " * self.random.choice((0, 0, 0, 0, 0, 1, 2))

    def cased(self, word):
        return "".join(self.random.choice((letter.lower(), letter)) for letter in word)

    def place(self):
        column = (self.random.randrange(26), self.random.choice((0, 1)))
        row = (self.random.choice((0, 1, 8, 9, 98, 99, 255)), self.random.choice((0, 1)))
        return column, row

    def placed(self, column, row):
        return "$" * column[1] + "ABCDEFGHIJKLMNOPQRSTUVWXYZ"[column[0]] + "$" * row[1] + str(row[0] + 1)

    def copied(self, place):
        """The place so many columns and rows further, or None if that's off the sheet."""
        (column, column_held), (row, row_held) = place
        column += 0 if column_held else self.columns
        row += 0 if row_held else self.rows
        if column not in range(26) or row not in range(256):
            return None
        return (column, column_held), (row, row_held)

    def leaf(self):
        pick = self.random.randrange(4)
        if pick == 0:
            return self.random.choice((("1.50", "1.5"), ("007", "7"), ("0.0", "0"), ("10", "10"), ("00.25", "0.25")))
        if pick == 1:
            return self.random.choice((('"a b"',) * 2, ('""',) * 2, ("#REF",) * 2))
        place = self.place()
        copied = self.copied(place)
        return self.cased(self.placed(*place)), self.placed(*copied) if copied else "#REF"

    def argument(self, depth):
        if self.random.randrange(3):
            return self.part(depth)[:2]
        one, other = self.place(), self.place()
        messy = self.cased(self.placed(*one)) + self.blanks() + ":" + self.blanks() + self.cased(self.placed(*other))
        one, other = self.copied(one), self.copied(other)
        if one is None or other is None:
            return messy, "#REF"
        (left, right), (top, bottom) = sorted((one[0], other[0])), sorted((one[1], other[1]))
        return messy, self.placed(left, top) + ":" + self.placed(right, bottom)

    def call(self, depth):
        name = self.random.choice(("SUM", "COUNT", "MIN", "MAX"))
        arguments = [self.argument(depth) for _ in range(self.random.choice((1, 1, 2, 3)))]
        spread = ",".join(self.blanks() + messy + self.blanks() for messy, _ in arguments)
        joined = ",".join(form for _, form in arguments)
        return self.cased(name) + self.blanks() + "(" + spread + ")", name + "(" + joined + ")"

    def choice(self, depth):
        sums = [self.part(depth) for _ in range(4)]
        sign = self.random.choice(("=", "<>", "<=", "<", ">=", ">"))
        messy, form = "", ""
        for ahead, (inner, inner_form, _) in zip(("(", sign, ",", ","), sums):
            messy += ahead + self.blanks() + inner + self.blanks()
            form += ahead + inner_form
        return self.cased("IF") + messy + ")", "IF" + form + ")"

    def bracketed(self, part, least):
        messy, form, level = part
        if level < least:
            return "(" + self.blanks() + messy + ")", "(" + form + ")"
        if self.random.randrange(5) == 0:
            return "(" + messy + self.blanks() + ")", form
        return messy, form

    def part(self, depth):
        pick = self.random.randrange(10) if depth else 0
        if pick < 3:
            return self.leaf() + (FACTOR,)
        if pick == 3:
            return self.call(depth - 1) + (FACTOR,)
        if pick == 4:
            return self.choice(depth - 1) + (FACTOR,)
        if pick == 5:
            messy, form = self.bracketed(self.part(depth - 1), FACTOR)
            return "-" + self.blanks() + messy, "-" + form, FACTOR
        signs, level = ("+-", SUM) if pick < 8 else ("*/", TERM)
        sign = self.random.choice(signs)
        left = self.bracketed(self.part(depth - 1), level)
        right = self.bracketed(self.part(depth - 1), level + 1)
        return left[0] + self.blanks() + sign + self.blanks() + right[0], left[1] + sign + right[1], level

    def formulas(self, many):
        made = []
        while len(made) < many:
            messy, form, _ = self.part(self.random.randrange(6))
            messy = self.blanks() + messy + self.blanks()
            if len(messy) <= 64:
                made.append((messy, form))
        return made

    def long_formulas(self, many):
        """Products of numbers, texts and places, each as long as it may be."""
        made = []
        while len(made) < many:
            leaves = [self.leaf()]
            while len("*".join(messy for messy, _ in leaves)) <= 64:
                leaves.append(self.leaf())
            leaves.pop()
            made.append(tuple("*".join(written) for written in zip(*leaves)))
        return made
