"""Splits a formula's bytes into pieces.

A piece is a pair of its kind and its value:
"number" and "text" with their bytes, as they are written;
"place" with its column and its row, each a pair of its number (from 0) and 1 if it's held, else 0;
"range" with its first and its last place;
a word or a sign ("#REF" counts as one) with itself as the kind and None.
"""

from cellforms.refusals import NotFormula

END = -1
BLANK = 32
QUOTE = 34
DOLLAR = 36
POINT = 46
ZERO = 48
NINE = 57
GREAT_A = 65
GREAT_Z = 90
SMALL_A = 97
SMALL_Z = 122

LEAST_IN_TEXT = 32
MOST_IN_TEXT = 126
MOST_TEXT_BYTES = 32
MOST_WHOLE_DIGITS = 12
MOST_PART_DIGITS = 4
COLUMNS = 26
ROWS = 256

WORDS = ("SUM", "COUNT", "MIN", "MAX", "IF")
# The longer ones first: "<" would else be taken from the front of "<=".
SIGNS = ("<>", "<=", ">=", "<", ">", "=", "+", "-", "*", "/", "(", ")", ",", ":", "#REF")


def great_letter(byte):
    if SMALL_A <= byte <= SMALL_Z:
        return byte - SMALL_A + GREAT_A
    return byte


def demand(holds):
    if not holds:
        raise NotFormula()


def without_zeros(whole, part):
    first = 0
    while first < len(whole) - 1 and whole[first] == ZERO:
        first += 1
    behind = len(part)
    while behind > 0 and part[behind - 1] == ZERO:
        behind -= 1
    if behind == 0:
        return whole[first:]
    return whole[first:] + [POINT] + part[:behind]


def value_of(digits):
    value = 0
    for digit in digits:
        value = value * 10 + digit - ZERO
    return value


def sign_piece(sign):
    return (sign, None)


def lost_piece():
    return sign_piece("#REF")


def range_piece(one, other):
    # Pairs are put in order by number, and of like numbers the one that isn't held comes first.
    columns = sorted([one[0], other[0]])
    rows = sorted([one[1], other[1]])
    return ("range", ((columns[0], rows[0]), (columns[1], rows[1])))


class Splitter:
    def __init__(self, p):
        self.p = p
        self.great = [great_letter(byte) for byte in p]
        self.at = 0

    def byte(self):
        return self.p[self.at] if self.at < len(self.p) else END

    def skip_blanks(self):
        while self.byte() == BLANK:
            self.at += 1

    def first_of(self, signs, where):
        for sign in signs:
            if where[self.at:self.at + len(sign)] == [ord(letter) for letter in sign]:
                return sign
        return None

    def piece(self):
        byte = self.byte()
        if ZERO <= byte <= NINE:
            return self.number()
        if byte == QUOTE:
            return self.text()
        # Signs are looked for in the bytes as they are, for "#REF" may not have small letters.
        sign = self.first_of(WORDS, self.great) or self.first_of(SIGNS, self.p)
        if sign is None:
            return self.place()
        self.at += len(sign)
        return sign_piece(sign)

    def digits(self):
        start = self.at
        while ZERO <= self.byte() <= NINE:
            self.at += 1
        return self.p[start:self.at]

    def number(self):
        whole = self.digits()
        demand(len(whole) <= MOST_WHOLE_DIGITS)
        part = []
        if self.byte() == POINT:
            self.at += 1
            part = self.digits()
            demand(1 <= len(part) <= MOST_PART_DIGITS)
        return ("number", without_zeros(whole, part))

    def text(self):
        start = self.at
        self.at += 1
        while LEAST_IN_TEXT <= self.byte() <= MOST_IN_TEXT and self.byte() != QUOTE:
            self.at += 1
        demand(self.byte() == QUOTE and self.at - start - 1 <= MOST_TEXT_BYTES)
        self.at += 1
        return ("text", self.p[start:self.at])

    def place(self):
        column_held = self.held()
        column = great_letter(self.byte())
        demand(GREAT_A <= column <= GREAT_Z)
        self.at += 1
        row_held = self.held()
        digits = self.digits()
        demand(len(digits) > 0 and digits[0] != ZERO)
        row = value_of(digits)
        demand(row <= ROWS)
        return ("place", ((column - GREAT_A, column_held), (row - 1, row_held)))

    def held(self):
        if self.byte() != DOLLAR:
            return 0
        self.at += 1
        return 1


def split_pieces(p):
    splitter = Splitter(p)
    pieces = []
    splitter.skip_blanks()
    while splitter.byte() != END:
        pieces.append(splitter.piece())
        splitter.skip_blanks()
    return pieces
