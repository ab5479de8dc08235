"""Formulas made for the tests, each with what is to be written of it."""

import random

from cellforms.reading import read_formula
from tests.asking import LETTERS

SUM, TERM, FACTOR = 0, 1, 2


def skeleton(p):
    """The formula's pieces, with one and the same for all that points to the sheet."""
    return ["#REF" if piece[0] in ("place", "range", "#REF") else piece for piece in read_formula(p)]


class Maker:
    """Makes formulas at random, but the same each time.

    Each comes with its blanks and brackets, and in its form as it's copied so many columns and rows further.
    """

    def __init__(self, seed, columns=0, rows=0):
        self.random = random.Random(seed)
        self.columns = columns
        self.rows = rows

    def blanks(self):
        return " " * self.random.choice((0, 0, 0, 0, 0, 1, 2))

    def cased(self, word):
        return "".join(self.random.choice((letter.lower(), letter)) for letter in word)

    def place(self):
        column = (self.random.randrange(26), self.random.choice((0, 1)))
        row = (self.random.choice((0, 1, 8, 9, 98, 99, 255)), self.random.choice((0, 1)))
        return column, row

    def placed(self, column, row):
        return "$" * column[1] + LETTERS[column[0]] + "$" * row[1] + str(row[0] + 1)

    def moved(self, place):
        """The place so many columns and rows further, or None if that's off the sheet."""
        (column, column_held), (row, row_held) = place
        column += 0 if column_held else self.columns
        row += 0 if row_held else self.rows
        if column not in range(26) or row not in range(256):
            return None
        return (column, column_held), (row, row_held)

    def moved_range(self, one, other):
        """The columns and the rows that the range has then, or None if it's lost."""
        one, other = self.moved(one), self.moved(other)
        if one is None or other is None:
            return None
        return (one[0], other[0]), (one[1], other[1])

    def leaf(self):
        pick = self.random.randrange(4)
        if pick == 0:
            return self.random.choice((("1.50", "1.5"), ("007", "7"), ("0.0", "0"), ("10", "10"), ("00.25", "0.25")))
        if pick == 1:
            return self.random.choice((('"a b"',) * 2, ('""',) * 2, ("#REF",) * 2))
        place = self.place()
        moved = self.moved(place)
        return self.cased(self.placed(*place)), self.placed(*moved) if moved else "#REF"

    def argument(self, depth):
        if self.random.randrange(3):
            return self.part(depth)[:2]
        one, other = self.place(), self.place()
        messy = self.cased(self.placed(*one)) + self.blanks() + ":" + self.blanks() + self.cased(self.placed(*other))
        moved = self.moved_range(one, other)
        if moved is None:
            return messy, "#REF"
        (left, right), (top, bottom) = sorted(moved[0]), sorted(moved[1])
        return messy, self.placed(left, top) + ":" + self.placed(right, bottom)

    def call(self, depth):
        name = self.random.choice(("SUM", "COUNT", "MIN", "MAX"))
        arguments = [self.argument(depth) for _ in range(self.random.choice((1, 1, 2, 3)))]
        spread = ",".join(self.blanks() + messy + self.blanks() for messy, _ in arguments)
        joined = ",".join(form for _, form in arguments)
        return self.cased(name) + self.blanks() + "(" + spread + ")", name + "(" + joined + ")"

    def choice(self, depth):
        sums = [self.part(depth) for _ in range(4)]
        sign = self.random.choice(("=", "<>", "<=", "<", ">=", ">"))
        messy, form = "", ""
        for ahead, (inner, inner_form, _) in zip(("(", sign, ",", ","), sums):
            messy += ahead + self.blanks() + inner + self.blanks()
            form += ahead + inner_form
        return self.cased("IF") + messy + ")", "IF" + form + ")"

    def bracketed(self, part, least):
        messy, form, level = part
        if level < least:
            return "(" + self.blanks() + messy + ")", "(" + form + ")"
        if self.random.randrange(5) == 0:
            return "(" + messy + self.blanks() + ")", form
        return messy, form

    def part(self, depth):
        pick = self.random.randrange(10) if depth else 0
        if pick < 3:
            return self.leaf() + (FACTOR,)
        if pick == 3:
            return self.call(depth - 1) + (FACTOR,)
        if pick == 4:
            return self.choice(depth - 1) + (FACTOR,)
        if pick == 5:
            messy, form = self.bracketed(self.part(depth - 1), FACTOR)
            return "-" + self.blanks() + messy, "-" + form, FACTOR
        signs, level = ("+-", SUM) if pick < 8 else ("*/", TERM)
        sign = self.random.choice(signs)
        left = self.bracketed(self.part(depth - 1), level)
        right = self.bracketed(self.part(depth - 1), level + 1)
        return left[0] + self.blanks() + sign + self.blanks() + right[0], left[1] + sign + right[1], level

    def formulas(self, many):
        made = []
        while len(made) < many:
            messy, form, _ = self.part(self.random.randrange(6))
            messy = self.blanks() + messy + self.blanks()
            if len(messy) <= 64:
                made.append((messy, form))
        return made

    def long_formulas(self, many):
        """Products of numbers, texts and places, each as long as it may be."""
        made = []
        while len(made) < many:
            leaves = [self.leaf()]
            while len("*".join(messy for messy, _ in leaves)) <= 64:
                leaves.append(self.leaf())
            leaves.pop()
            made.append(tuple("*".join(written) for written in zip(*leaves)))
        return made


class ShiftMaker(Maker):
    """Makes formulas with their form as rows or columns are put into a sheet, or taken out of it."""

    def __init__(self, seed, what, at, many):
        super().__init__(seed)
        self.of_rows = what in (0, 1)
        self.size = 256 if self.of_rows else 26
        near = (0, 1, at - 2, at - 1, at, at + 1, at + many - 1, at + many, self.size - many, self.size - 1)
        self.near = [number for number in near if 0 <= number < self.size]
        lines = list(range(self.size))
        if what in (0, 2):
            lines[at:at] = [None] * many
        else:
            del lines[at:at + many]
        # Where each row or column comes to lie; those that are taken out come to lie nowhere.
        self.there = {number: there for there, number in enumerate(lines) if number is not None}

    def place(self):
        column, row = super().place()
        if self.random.randrange(4) == 0:
            return column, row
        near = self.random.choice(self.near)
        return (column, (near, row[1])) if self.of_rows else ((near, column[1]), row)

    def span(self, one, other):
        """The first and the last of what's left of the lines from one to the other, or None if nothing is."""
        (first, first_held), (last, last_held) = sorted((one, other))
        left = [self.there[number] for number in range(first, last + 1) if number in self.there]
        if not left or left[0] >= self.size:
            return None
        return (left[0], first_held), (min(left[-1], self.size - 1), last_held)

    def moved(self, place):
        columns, rows = self.moved_range(place, place) or (None, None)
        return (columns[0], rows[0]) if columns else None

    def moved_range(self, one, other):
        columns, rows = sorted((one[0], other[0])), sorted((one[1], other[1]))
        if self.of_rows:
            rows = self.span(*rows)
        else:
            columns = self.span(*columns)
        return (columns, rows) if columns and rows else None
